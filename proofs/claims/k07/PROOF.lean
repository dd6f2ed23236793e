import PyProof.Rows.All
import Wide.All
import OpenK.AllK
import Wide.FinOn
import HandS.ForMost
import HandS.Flow
import HandS.Wide
import HandS.IsInst
import HandS.TupAny
import HandS.Deep
import HandS.Strs
import HandS.StrMore
import HandS.More
import HandS.FStr
import HandS.Star
import HandS.RaiseMore
import HandS.ReCall
import HandS.Set
import HandS.SetBool
import PyProof.Rows.SortShellAny
import HandS.Zip
import HandS.RevRange
import PySem.Challenge.RW_everyturn_k07_names
set_option Elab.async false
set_option linter.all false
set_option maxRecDepth 100000
set_option maxHeartbeats 4000000
/-! Iv: sets whose members are ints and texts, in the machine's heap, their table rising so that they can be walked. -/
namespace Iv
open PySem L2 PySem.Spec PyProof.Rows

def kyOf : Value → Key
  | .int k _ => .inl k
  | .str x _ => .inr x
  | _ => .inl 0
def Ent (w : World) (e : Int × Value) : Prop := keyIs (kyOf e.2) e.2 = true ∧ e.1 = keyH w (kyOf e.2)
def hasK (ks : List Key) (k : Key) : Bool := ks.any fun j => decide (j = k)
theorem hasK_iff {ks : List Key} {k : Key} : hasK ks k = true ↔ k ∈ ks := by
  unfold hasK
  rw [List.any_eq_true]
  exact ⟨fun ⟨j, h1, h2⟩ => by rw [← of_decide_eq_true h2]; exact h1, fun h => ⟨k, h, decide_eq_true rfl⟩⟩
def addK (ks : List Key) (k : Key) : List Key := if hasK ks k = true then ks else ks ++ [k]
def kyE (e : Int × Value) : Key := kyOf e.2
/-- the set at a holds just these keys, in some order -/
def KSet (w : World) (h : Heap) (a : Addr) (ks : List Key) : Prop :=
  ∃ ob es ep tb, (h.get? a = some ob ∧ ob.ExactSet ∧ ob.data = .set es ep tb) ∧ ((∀ x ∈ es.toList, Ent w x) ∧ (es.toList.map kyE).Perm ks ∧ ks.Nodup) ∧
    es.size < scanBound ∧ tb.fits es.size = true ∧ Ris tb.place.toList ∧ (w.params.followText "set-order" = true ∨ tb.led = true)
theorem kyOf_of {k : Key} {u : Value} (h : keyIs k u = true) : kyOf u = k := by
  rcases keyIs_shape h with ⟨i, t, rfl, rfl⟩ | ⟨x, t, rfl, rfl⟩ <;> rfl
theorem key_scannable {k : Key} {u : Value} (h : keyIs k u = true) : u.scannable = true := by
  rcases keyIs_shape h with ⟨i, t, rfl, rfl⟩ | ⟨x, t, rfl, rfl⟩ <;> rfl
theorem ent_is {w : World} {x : Int × Value} (g : Ent w x) (k : Key) : keyIs k x.2 = true ↔ kyE x = k :=
  ⟨fun h => kyOf_of h, fun h => by rw [← h]; exact g.1⟩
theorem ent_elems {P : Program} {w : World} {l : List (Int × Value)} (g : ∀ x ∈ l, Ent w x) : ElemsOf (mixKind P w) l :=
  fun x hx => ⟨⟨kyE x, (g x hx).1, (g x hx).2⟩, key_scannable (g x hx).1⟩
theorem ent_mem {w : World} {l : List (Int × Value)} (g : ∀ x ∈ l, Ent w x) (k : Key) : k ∈ l.map kyE ↔ ∃ x ∈ l, keyIs k x.2 = true := by
  rw [List.mem_map]
  exact ⟨fun ⟨x, hx, q⟩ => ⟨x, hx, (ent_is (g x hx) k).2 q⟩, fun ⟨x, hx, q⟩ => ⟨x, hx, (ent_is (g x hx) k).1 q⟩⟩
section
variable {P : Program} {w : World} {h h' : Heap} {a : Addr} {ks : List Key}
theorem KSet.keep (R : KSet w h a ks) (k : ∀ o, h.get? a = some o → h'.get? a = some o) : KSet w h' a ks := by
  obtain ⟨ob, es, ep, tb, ⟨e1, e2⟩, r⟩ := R
  exact ⟨ob, es, ep, tb, ⟨k ob e1, e2⟩, r⟩
theorem KSet.size {es : Array (Int × Value)} (p : (es.toList.map kyE).Perm ks) : es.size = ks.length := by
  have := p.length_eq
  rw [List.length_map, Array.length_toList] at this
  exact this
theorem KSet.setOf (R : KSet w h a ks) : h.SetOf (mixKind P w) a (hasK ks) ks.length := by
  obtain ⟨ob, es, ep, tb, ⟨e1, e2, e3⟩, ⟨g, p, _⟩, b, f, _⟩ := R
  refine ⟨ob, es, ep, tb, e1, e2, e3, ent_elems g, fun k => ?_, b, f, KSet.size p⟩
  rw [hasK_iff, ← p.mem_iff, ent_mem g]
  exact Iff.rfl
theorem KSet.perm {ls : List Key} (R : KSet w h a ks) (p : ks.Perm ls) : KSet w h a ls := by
  obtain ⟨ob, es, ep, tb, r, ⟨g, q, n⟩, z⟩ := R
  exact ⟨ob, es, ep, tb, r, ⟨g, q.trans p, p.nodup_iff.mp n⟩, z⟩
end
section
variable {P : Program} {w : World} {A : Around} {E : Value → Shared → Prop} {s : Shared} {a : Addr} {ks : List Key}
theorem put_at {h : Heap} {ob : Obj} {es es2 : Array (Int × Value)} {ep : Nat} {tb tb2 : SetTable} (e1 : h.get? a = some ob) (e3 : ob.data = .set es ep tb) :
    (h.update a (Obj.putSet es2 tb2)).get? a = some { ob with data := .set es2 (ep + 1) tb2 } := by
  have z := putSet_of es2 tb2 e3
  have q := Heap.get?_update_self (Obj.putSet es2 tb2) e1 (by rw [z]; rfl)
  rwa [z] at q
/-- what stands behind the new member's place: the table laid again if it is too full -/
theorem kset_tail {gv : Bool → Sem Unit} (hgv : ∀ (b : Bool) (s1 : Shared) (Z : Unit → Shared → Prop), Z () s1 → wpAny (model P w) A (gv b) Z E s1)
    {ob : Obj} {es : Array (Int × Value)} {ep : Nat} {tb : SetTable} (e1 : s.heap.get? a = some ob) (e2 : ob.ExactSet) (e3 : ob.data = .set es ep tb)
    {es2 : Array (Int × Value)} {tb2 : SetTable} (g : ∀ x ∈ es2.toList, Ent w x) (p : (es2.toList.map kyE).Perm ks) (nd : ks.Nodup)
    (b2 : es2.size < scanBound) (f2 : tb2.fits es2.size = true) (r2 : Ris tb2.place.toList) (l2 : w.params.followText "set-order" = true ∨ tb2.led = true) {wd : Bool} {R : Option Bool → Shared → Prop}
    (hR : ∀ h', Heap.SameBut a s.heap h' → KSet w h' a ks → R (some true) { s with heap := h' }) :
    wpAny (model P w) A (storeSet a es2 tb2 >>= fun _ => if (!wd && tb2.tooFull) = true then
        gv (relayAll tb2 es2 (SetTable.grown es2.size)).2.2 >>= fun _ => storeSet a (relayAll tb2 es2 (SetTable.grown es2.size)).1 (relayAll tb2 es2 (SetTable.grown es2.size)).2.1 >>= fun _ => pure (some true)
      else pure (some true)) R E s := by
  refine wpAny_bind (wpAny_storeSet_of e1 e3 ?_ (fits_of_scanBound b2))
  have at1 := put_at (a := a) (es2 := es2) (tb2 := tb2) e1 e3
  have sb := Heap.SameBut.update s.heap a (Obj.putSet es2 tb2)
  split
  · have pm := relayAll_perm tb2 es2 (SetTable.grown es2.size)
    have f3 := relayAll_fits tb2 es2 (SetTable.grown es2.size)
    have r3 := relayAll_ris tb2 es2 (SetTable.grown es2.size)
    have l3 := relayAll_led tb2 es2 (SetTable.grown es2.size)
    revert pm f3 r3 l3
    generalize relayAll tb2 es2 (SetTable.grown es2.size) = Z
    obtain ⟨es3, tb3, gave⟩ := Z
    intro pm f3 r3 l3
    have sz : es3.size = es2.size := by simpa using pm.length_eq
    have b3 : es3.size < scanBound := sz ▸ b2
    refine wpAny_bind (hgv _ _ _ (wpAny_bind (wpAny_storeSet_of at1 rfl ?_ (fits_of_scanBound b3))))
    refine wpAny_pure (hR _ (sb.trans (Heap.SameBut.update _ a _)) ?_)
    refine ⟨_, es3, _, tb3, ⟨put_at at1 rfl, e2, rfl⟩, ⟨fun x hx => g x (pm.mem_iff.mp hx), (pm.map kyE).trans p, nd⟩, b3, f3, r3, ?_⟩
    rcases l2 with z | z
    · exact .inl z
    · exact .inr (l3.trans z)
  · exact wpAny_pure (hR _ sb ⟨_, es2, _, tb2, ⟨at1, e2, rfl⟩, ⟨g, p, nd⟩, b2, f2, r2, l2⟩)
theorem kset_hashed {k : Key} {u : Value} {Q : Bool → Shared → Prop} (hu : keyIs k u = true) (R : KSet w s.heap a ks) (room : ks.length + 1 < scanBound)
    (hQ : ∀ b h', Heap.SameBut a s.heap h' → KSet w h' a (addK ks k) → Q b { s with heap := h' }) :
    wpAny (model P w) A (setAddHashed a u ((mixKind P w).hash k)) Q E s := by
  have R0 := R
  obtain ⟨ob, es, ep, tb, ⟨e1, e2, e3⟩, ⟨g, p, nd⟩, bz, f, r, l⟩ := R
  have hk : (mixKind P w).is k u = true := hu
  have sc := key_scannable hu
  have el : ElemsOf (mixKind P w) es.toList := ent_elems g
  have hn := KSet.size p
  unfold setAddHashed setAddHashedIn
  refine wpAny_holding (wpAny_bind (wpAny_setState_of e1 e3 f ?_))
  dsimp only
  rw [byScan_of sc bz el]
  simp only [↓reduceIte]
  unfold setAddByScan
  refine wpAny_bind (wpAny_bind (wpAny_rule (wpAny_bind (wpAny_setScan_of hk e1 e3 f el ?_))))
  cases fi : List.findIdx? (fun x => (mixKind P w).is k x.2) es.toList with
  | some j =>
    dsimp only
    obtain ⟨hj, pj, _⟩ := List.findIdx?_eq_some_iff_getElem.mp fi
    have mem : k ∈ ks := p.mem_iff.mp ((ent_mem g k).2 ⟨es.toList[j], List.getElem_mem hj, pj⟩)
    refine wpAny_pure (wpAny_pure ?_)
    have q := hQ false s.heap (Heap.SameBut.refl a s.heap)
    rw [addK, if_pos (hasK_iff.mpr mem)] at q
    exact q R0
  | none =>
    dsimp only
    have nmem : k ∉ ks := fun z => by
      obtain ⟨x, hx, q⟩ := (ent_mem g k).1 (p.mem_iff.mpr z)
      have c := List.findIdx?_eq_none_iff.mp fi x hx
      rw [show (mixKind P w).is k x.2 = true from q] at c
      cases c
    rw [addK, if_neg (fun z => nmem (hasK_iff.mp z))] at hQ
    have gw : ∀ (b : Bool) {s1 : Shared} {Z : Unit → Shared → Prop}, Z () s1 → wpAny (model P w) A (match b with | true => rule "set.scan.the-table-gave-way" | false => pure ()) Z E s1 := by
      intro b s1 Z q
      cases b
      · exact wpAny_pure q
      · exact wpAny_rule q
    have pm := layNew_perm tb es ((mixKind P w).hash k) u
    have f1 := layNew_fits tb es ((mixKind P w).hash k) u
    have r1 := layNew_ris tb es ((mixKind P w).hash k) u r
    have l1 := layNew_led tb es ((mixKind P w).hash k) u
    revert pm f1 r1 l1
    generalize layNew tb es ((mixKind P w).hash k) u = Z
    obtain ⟨es1, tb1, wd, gave⟩ := Z
    intro pm f1 r1 l1
    dsimp only at pm f1 r1 l1 ⊢
    rw [Array.toList_push] at pm
    have g1 : ∀ x ∈ es1.toList, Ent w x := fun x hx => by
      rcases List.mem_append.mp (pm.mem_iff.mp hx) with z | z
      · exact g x z
      · rw [List.mem_singleton.mp z]
        exact ⟨by rw [kyOf_of hu]; exact hu, by rw [kyOf_of hu] <;> rfl⟩
    have p1 : (es1.toList.map kyE).Perm (ks ++ [k]) := by
      have q := pm.map kyE
      rw [List.map_append] at q
      have ek : [((mixKind P w).hash k, u)].map kyE = [k] := by
        show [kyOf u] = [k]
        rw [kyOf_of hu]
      rw [ek] at q
      exact q.trans (p.append_right [k])
    have nd1 : (ks ++ [k]).Nodup := by
      rw [(List.perm_append_singleton k ks).nodup_iff]
      exact List.nodup_cons.mpr ⟨nmem, nd⟩
    have b1 : es1.size < scanBound := by
      rw [KSet.size p1, List.length_append]
      exact room
    have led1 : w.params.followText "set-order" = true ∨ tb1.led = true := by
      rcases l with z | z
      · exact .inl z
      · exact .inr (l1.trans z)
    refine wpAny_bind (gw _ ?_)
    split
    · refine wpAny_bind ?_
      rw [hashByValue_scannable 8 sc]
      refine wpAny_pure (kset_tail (fun b s1 Z q => gw b q) e1 e2 e3 g1 p1 nd1 b1 ?_ ?_ ?_ fun h' sb q => ?_)
      · first | (split <;> first | exact f1 | exact SetTable.fits_plain_off f1) | exact f1
      · first | (split <;> exact r1) | exact r1
      · first | (split <;> exact led1) | exact led1
      · dsimp only
        exact wpAny_pure (hQ true h' sb q)
    · refine wpAny_bind (wpAny_pure ?_)
      simp only [↓reduceIte]
      refine kset_tail (fun b s1 Z q => gw b q) e1 e2 e3 g1 p1 nd1 b1 f1 r1 led1 fun h' sb q => ?_
      dsimp only
      exact wpAny_pure (hQ true h' sb q)
/-- s.add(k) -/
theorem kset_add {k : Key} {u : Value} {Q : Value → Shared → Prop} (hu : keyIs k u = true) (R : KSet w s.heap a ks) (room : ks.length + 1 < scanBound)
    (hQ : ∀ h', Heap.SameBut a s.heap h' → KSet w h' a (addK ks k) → Q .none { s with heap := h', toks := s.toks + 1 }) :
    wpAny (model P w) A (call (.builtin "set.add") [.ref a, u]) Q E s := by
  refine wpAny_call_entry F.slot_set_add (R.setOf (P := P)).typeIs F.entry_set_add ?_ (F.args_set_add_2 _ _)
  unfold Builtin.«set.add» Builtin.Frozenset.oneOther
  simp only [List.isEmpty_nil, bind_assoc]
  unfold Builtin.Frozenset.addrOf setAdd
  refine wpAny_bind (wpAny_pure ?_)
  try dsimp only
  refine wpAny_bind (wpAny_pure ?_)
  try dsimp only
  refine wpAny_bind (wpAny_holding (wpAny_bind ((mixKind P w).pyHash (k := k) hu ?_)))
  refine kset_hashed (s := { s with toks := s.toks + 1 }) hu R room fun b h' sb q => ?_
  show wpAny _ _ (ret Value.none) _ _ _
  exact wpAny_pure ⟨_, rfl, hQ h' sb q⟩
/-- an empty one, as it is made -/
abbrev newSetObj (w : World) : Obj := { cls := .type "set", dict := none, data := .set #[] 0 (.fresh 0 0 (!w.params.followText "set-order")) }
theorem kset_fresh (h : Heap) (w : World) : KSet w (h.push (newSetObj w)) h.objs.size [] := by
  refine ⟨_, #[], 0, _, ⟨Heap.get?_push_size _ rfl, ⟨rfl, rfl, rfl⟩, rfl⟩, ⟨fun x hx => by simp at hx, List.Perm.refl _, List.Pairwise.nil⟩, by decide, by rfl, List.Pairwise.nil, ?_⟩
  show _ ∨ (!w.params.followText "set-order") = true
  cases w.params.followText "set-order"
  · exact .inr rfl
  · exact .inl rfl
/-- what sorted() makes of a set of ints, of texts -/
theorem kset_sortedI {ns : List Int} {Q : Value → Shared → Prop} (R : KSet w s.heap a (ns.map Sum.inl)) (hh : A.handled = none)
    (hQ : ∀ s2 q (out : Array Value) (c : Nat) (ms : List Int), (∀ b o, s.heap.get? b = some o → s2.heap.get? b = some o) → s2.gens = s.gens → s2.os = s.os → s.heap.objs.size ≤ q →
      s2.heap.get? q = some (seqObj "list" out c) → IntsAre out.toList ms → ms.Pairwise (· ≤ ·) → ms.Perm ns → Q (.ref q) s2) :
    wpAny (model P w) A (call (.builtin "sorted") [.ref a]) Q E s := by
  obtain ⟨ob, es, ep, tb, ⟨e1, e2, e3⟩, ⟨g, p, nd⟩, bz, f, r, l⟩ := R
  refine Calls.call_function_entry kind_sorted plain_sorted entry_sorted (args_sorted1 _) ?_
  unfold Builtin.«sorted»
  refine wpAny_bind (m := checkCount "sorted" 1 1 _) (wpAny_pure (wpAny_bind (collect_set (A := A.in1) hh ⟨ob, e1, e2.1, e3⟩ f bz r l fun s1 vs k1 z1 g1 o1 pm => ?_)))
  have kv : (vs.map kyOf).Perm (ns.map Sum.inl) := by
    have q := pm.map kyOf
    rw [List.map_map] at q
    exact q.trans p
  have lv : vs.length ≤ sizeLine := by
    rw [pm.length_eq, List.length_map, Array.length_toList]
    exact fits_of_scanBound bz
  have hI : IntsAre vs (vs.map Builtin.Re.reRawOf) := ints_of vs fun v hv => by
    obtain ⟨x, hx, rfl⟩ := List.mem_map.mp (pm.mem_iff.mp hv)
    have m1 := kv.mem_iff.mp (List.mem_map_of_mem hv)
    obtain ⟨i, _, ei⟩ := List.mem_map.mp m1
    have q := (g x hx).1
    rw [← ei] at q
    exact Value.isInt_shape (k := i) q |>.elim fun t et => ⟨i, t, et⟩
  have pr : (vs.map Builtin.Re.reRawOf).Perm ns := by
    have inj : ∀ (xs ys : List Int), (xs.map (Sum.inl : Int → Key)).Perm (ys.map Sum.inl) → xs.Perm ys := fun xs ys q => by
      have q2 := q.map (fun k : Key => match k with | .inl i => i | .inr _ => (0 : Int))
      rw [List.map_map, List.map_map] at q2
      have e : ((fun k : Key => match k with | .inl i => i | .inr _ => (0 : Int)) ∘ Sum.inl) = (id : Int → Int) := rfl
      rwa [e, List.map_id, List.map_id] at q2
    refine inj _ _ ?_
    have e : (vs.map Builtin.Re.reRawOf).map (Sum.inl : Int → Key) = vs.map kyOf := by
      clear pm kv lv
      generalize hms : vs.map Builtin.Re.reRawOf = ms at hI
      clear hms
      induction hI with
      | nil => rfl
      | cons i t _ ih => rw [List.map_cons, List.map_cons, ih]; rfl
    rw [e]
    exact kv
  refine wpAny_bind (wpAny_newList ?_ lv)
  have hoL : (s1.heap.push (seqObj "list" vs.toArray 0)).get? s1.heap.objs.size = some (seqObj "list" vs.toArray 0) := Heap.get?_push_size _ rfl
  refine wpAny_bind (wpAny_holding (wpAny_call_entry slot_list_sort ⟨_, hoL, rfl⟩ entry_list_sort (list_sort_treeAny hoL hI lv fun out ms a1 a2 a3 => ⟨_, rfl, ?_⟩) (args_list_sort _)))
  obtain ⟨c, hc⟩ := sortedHeap_at (vs := vs) (out := out) hoL
  refine wpAny_pure ⟨_, rfl, hQ _ s1.heap.objs.size out c ms (fun b u q => ?_) g1 o1 z1 hc a1 a3 (a2.trans pr)⟩
  have q2 := k1 b u q
  have lt := Heap.lt_size q2
  show (sortedHeap (s1.heap.push (seqObj "list" vs.toArray 0)) s1.heap.objs.size vs out).get? b = some u
  rw [sortedHeap_old (Nat.ne_of_lt lt) (by rw [size_push']; exact Nat.lt_succ_of_lt lt)]
  exact Heap.get?_push_of_some _ q2
end
end Iv

/-! Iv: what the text means, as plain functions over data and a store of lists; and that the machine does just this. -/
namespace Iv
open PySem L2

inductive D where
  | non | bl (b : Bool) | int (i : Int) | str (x : Str) | tup (xs : List D) | loc (n : Nat)
  deriving Inhabited
/-- what stands at a place of the store: a list that may change, one that is only read -/
inductive OB where
  | lst (xs : List D) | frz (xs : List D) | set (xs : List D) | dic (kvs : List (D × D))
/-- may it change? -/
def mutO : OB → Bool
  | .frz _ => false
  | _ => true
abbrev Sto := List OB
abbrev Sl := List (Option D)
inductive R where
  | nx (s : Sl) | brk (s : Sl) | cnt (s : Sl) | ret (d : D)
abbrev SE := Sl → Sto → Option (D × Sto)
abbrev ST := Sl → Sto → Option (Bool × Sto)
abbrev SA := Sl → Sto → Option (List D × Sto)
abbrev SS := Sl → Sto → Option (R × Sto)
abbrev LIM : Nat := 1000000
theorem lim_ok {n : Nat} (h : n ≤ LIM) : n ≤ sizeLine := Nat.le_trans h (by rw [sizeLine_eq]; decide)
theorem lim_lt {n : Nat} (h : n < LIM) : n < sizeLine := Nat.lt_of_lt_of_le h (by rw [sizeLine_eq]; decide)

def bnd {α β : Type} (x : Option (α × Sto)) (k : α → Sto → Option β) : Option β := match x with
  | some (a, st) => k a st
  | none => none
@[simp] theorem bnd_some {α β : Type} (a : α) (st : Sto) (k : α → Sto → Option β) : bnd (some (a, st)) k = k a st := rfl
@[simp] theorem bnd_none {α β : Type} (k : α → Sto → Option β) : bnd none k = none := rfl
theorem bnd_eq {α β : Type} {x : Option (α × Sto)} {k : α → Sto → Option β} {b : β} (h : bnd x k = some b) : ∃ a st, x = some (a, st) ∧ k a st = some b := by
  cases x with
  | none => cases h
  | some p => exact ⟨p.1, p.2, rfl, h⟩

def getL (st : Sto) (n : Nat) : Option (List D) := match st[n]? with
  | some (.lst xs) => some xs
  | some (.frz xs) => some xs
  | _ => none
def getM (st : Sto) (n : Nat) : Option (List D) := match st[n]? with
  | some (.lst xs) => some xs
  | _ => none

/-! ### how data stand in the machine's heap -/
def strD : D → Bool
  | .str _ => true
  | _ => false
/-- texts alone, one or more -/
def nst (ds : List D) : Bool := !ds.isEmpty && ds.all strD
/-- a tuple on which no dict hangs -/
def NoD (K : PySem.W.Frag) (H : Hp) (p : Addr) : Prop := (∃ o u, H p = some (.frz o u) ∧ o.cls = .type "tuple" ∧ o.dict = none) ∨ ∃ o, K.lookup p = some o ∧ o.cls = .type "tuple" ∧ o.dict = none
def SqN (K : PySem.W.Frag) (H : Hp) (p : Addr) (ds : List D) (vs : List V) : Prop := SqT K H p vs ∧ (nst ds = true → NoD K H p)
mutual
def Rep (K : PySem.W.Frag) (H : Hp) (μ : List Addr) : D → V → Prop
  | .non, v => v = .non
  | .bl b, v => v = .bl b
  | .int i, v => v = .int i
  | .str x, v => v = .str x
  | .loc n, v => ∃ p, v = .ref p ∧ μ[n]? = some p
  | .tup ds, v => ∃ p vs, v = .ref p ∧ SqN K H p ds vs ∧ Reps K H μ ds vs
def Reps (K : PySem.W.Frag) (H : Hp) (μ : List Addr) : List D → List V → Prop
  | [], vs => vs = []
  | d :: ds, vs => ∃ v ws, vs = v :: ws ∧ Rep K H μ d v ∧ Reps K H μ ds ws
end
def Keeps (H H' : Hp) : Prop := (∀ b xs, H b = some (.tup xs) → H' b = some (.tup xs)) ∧ ∀ b o u, H b = some (.frz o u) → H' b = some (.frz o u)
theorem Keeps.refl (H : Hp) : Keeps H H := ⟨fun _ _ h => h, fun _ _ _ h => h⟩
theorem Keeps.trans {H H1 H2 : Hp} (a : Keeps H H1) (b : Keeps H1 H2) : Keeps H H2 := ⟨fun x y h => b.1 x y (a.1 x y h), fun x y z h => b.2 x y z (a.2 x y z h)⟩
theorem Keeps.same {H H' : Hp} (e : Same H H') : Keeps H H' := ⟨fun _ _ h => e _ _ h, fun _ _ _ h => e _ _ h⟩
theorem Keeps.sqT {K : PySem.W.Frag} {H H' : Hp} {p : Addr} {vs : List V} (e : Keeps H H') (h : SqT K H p vs) : SqT K H' p vs := by
  rcases h with (h | ⟨o, h⟩) | h
  · exact .inl (.inl (e.1 _ _ h))
  · exact .inl (.inr ⟨o, e.2 _ _ _ h⟩)
  · exact .inr h
theorem Keeps.sqN {K : PySem.W.Frag} {H H' : Hp} {p : Addr} {ds : List D} {vs : List V} (e : Keeps H H') (h : SqN K H p ds vs) : SqN K H' p ds vs := ⟨e.sqT h.1, fun z => by
  rcases h.2 z with ⟨o, u, h1, h2⟩ | h1
  · exact .inl ⟨o, u, e.2 _ _ _ h1, h2⟩
  · exact .inr h1⟩
def Gr (H : Hp) (μ : List Addr) (H' : Hp) (μ' : List Addr) : Prop := Keeps H H' ∧ ∃ l, μ' = μ ++ l
theorem Gr.refl (H : Hp) (μ : List Addr) : Gr H μ H μ := ⟨Keeps.refl H, [], by simp⟩
theorem Gr.trans {H H1 H2 : Hp} {μ μ1 μ2 : List Addr} (a : Gr H μ H1 μ1) (b : Gr H1 μ1 H2 μ2) : Gr H μ H2 μ2 := by
  obtain ⟨k, l, e⟩ := a
  obtain ⟨k2, l2, e2⟩ := b
  exact ⟨k.trans k2, l ++ l2, by rw [e2, e, List.append_assoc]⟩
theorem Gr.get {H H' : Hp} {μ μ' : List Addr} (g : Gr H μ H' μ') {n : Nat} {p : Addr} (h : μ[n]? = some p) : μ'[n]? = some p := by
  obtain ⟨_, l, e⟩ := g
  rw [e, List.getElem?_append_left (List.getElem?_eq_some_iff.mp h).1]
  exact h
mutual
theorem Rep.mono {K : PySem.W.Frag} {H H' : Hp} {μ μ' : List Addr} (g : Gr H μ H' μ') : ∀ (d : D) (v : V), Rep K H μ d v → Rep K H' μ' d v
  | .non, _, h => h
  | .bl _, _, h => h
  | .int _, _, h => h
  | .str _, _, h => h
  | .loc n, v, h => by
    simp only [Rep] at h ⊢
    obtain ⟨p, e, m⟩ := h
    exact ⟨p, e, g.get m⟩
  | .tup ds, v, h => by
    simp only [Rep] at h ⊢
    obtain ⟨p, vs, e, s, r⟩ := h
    exact ⟨p, vs, e, g.1.sqN s, Reps.mono g ds vs r⟩
theorem Reps.mono {K : PySem.W.Frag} {H H' : Hp} {μ μ' : List Addr} (g : Gr H μ H' μ') : ∀ (ds : List D) (vs : List V), Reps K H μ ds vs → Reps K H' μ' ds vs
  | [], _, h => h
  | d :: ds, vs, h => by
    simp only [Reps] at h ⊢
    obtain ⟨v, ws, e, r, s⟩ := h
    exact ⟨v, ws, e, Rep.mono g d v r, Reps.mono g ds ws s⟩
end
section
variable {K : PySem.W.Frag} {ww : World} {H H' : Hp} {μ μ' : List Addr}
theorem Rep.m {d : D} {v : V} (h : Rep K H μ d v) (g : Gr H μ H' μ') : Rep K H' μ' d v := Rep.mono g d v h
theorem Reps.m {d : List D} {v : List V} (h : Reps K H μ d v) (g : Gr H μ H' μ') : Reps K H' μ' d v := Reps.mono g d v h
theorem reps_nil : Reps K H μ [] [] := by simp only [Reps]
theorem reps_cons {d : D} {v : V} {ds : List D} {vs : List V} (h : Rep K H μ d v) (r : Reps K H μ ds vs) : Reps K H μ (d :: ds) (v :: vs) := by
  simp only [Reps]
  exact ⟨v, vs, rfl, h, r⟩
theorem Reps.len : ∀ {ds : List D} {vs : List V}, Reps K H μ ds vs → ds.length = vs.length
  | [], vs, h => by simp only [Reps] at h; rw [h]; rfl
  | d :: ds, vs, h => by
    simp only [Reps] at h
    obtain ⟨v, ws, rfl, _, r⟩ := h
    rw [List.length_cons, List.length_cons, Reps.len r]
theorem Reps.get : ∀ {ds : List D} {vs : List V} {i : Nat} {d : D}, Reps K H μ ds vs → ds[i]? = some d → ∃ v, vs[i]? = some v ∧ Rep K H μ d v
  | [], _, i, _, _, e => by simp at e
  | x :: ds, vs, 0, d, h, e => by
    simp only [Reps] at h
    obtain ⟨v, ws, rfl, r, _⟩ := h
    simp at e; subst e
    exact ⟨v, rfl, r⟩
  | x :: ds, vs, i + 1, d, h, e => by
    simp only [Reps] at h
    obtain ⟨v, ws, rfl, _, r⟩ := h
    obtain ⟨u, h1, h2⟩ := Reps.get r (by simpa using e)
    exact ⟨u, by simpa using h1, h2⟩
theorem Reps.get' : ∀ {ds : List D} {vs : List V} {i : Nat} {v : V}, Reps K H μ ds vs → vs[i]? = some v → ∃ d, ds[i]? = some d ∧ Rep K H μ d v := by
  intro ds vs i v h e
  have hl := h.len
  have hi := (List.getElem?_eq_some_iff.mp e).1
  have e2 : ds[i]? = some ds[i] := List.getElem?_eq_getElem (by omega)
  obtain ⟨u, h1, h2⟩ := h.get e2
  rw [e] at h1; cases h1
  exact ⟨_, e2, h2⟩
theorem Reps.app : ∀ {ds : List D} {vs : List V} {es : List D} {ws : List V}, Reps K H μ ds vs → Reps K H μ es ws → Reps K H μ (ds ++ es) (vs ++ ws)
  | [], vs, es, ws, h, r => by simp only [Reps] at h; subst h; exact r
  | x :: ds, vs, es, ws, h, r => by
    simp only [Reps] at h
    obtain ⟨v, us, rfl, r1, r2⟩ := h
    exact reps_cons r1 (Reps.app r2 r)
theorem Reps.set : ∀ {ds : List D} {vs : List V} {i : Nat} {d : D} {v : V}, Reps K H μ ds vs → Rep K H μ d v → Reps K H μ (ds.set i d) (vs.set i v)
  | [], vs, i, d, v, h, r => by simp only [Reps] at h; subst h; exact reps_nil
  | x :: ds, vs, 0, d, v, h, r => by
    simp only [Reps] at h
    obtain ⟨u, us, rfl, r1, r2⟩ := h
    exact reps_cons r r2
  | x :: ds, vs, i + 1, d, v, h, r => by
    simp only [Reps] at h
    obtain ⟨u, us, rfl, r1, r2⟩ := h
    exact reps_cons r1 (Reps.set r2 r)
theorem Reps.take : ∀ {ds : List D} {vs : List V} (n : Nat), Reps K H μ ds vs → Reps K H μ (ds.take n) (vs.take n)
  | _, _, 0, _ => reps_nil
  | [], vs, _ + 1, h => by simp only [Reps] at h; subst h; exact reps_nil
  | x :: ds, vs, n + 1, h => by
    simp only [Reps] at h
    obtain ⟨u, us, rfl, r1, r2⟩ := h
    exact reps_cons r1 (Reps.take n r2)
theorem Reps.drop : ∀ {ds : List D} {vs : List V} (n : Nat), Reps K H μ ds vs → Reps K H μ (ds.drop n) (vs.drop n)
  | _, _, 0, r => r
  | [], vs, _ + 1, h => by simp only [Reps] at h; subst h; exact reps_nil
  | x :: ds, vs, n + 1, h => by
    simp only [Reps] at h
    obtain ⟨u, us, rfl, r1, r2⟩ := h
    exact Reps.drop n r2
end
/-- a datum as a member of a set, a key of a dict -/
def keyD : D → Option Key
  | .int i => some (.inl i)
  | .str x => some (.inr x)
  | _ => none
def keysD : List D → Option (List Key)
  | [] => some []
  | d :: ds => (keyD d).bind fun k => (keysD ds).map fun ks => k :: ks
def KSetO (w : World) (p : Addr) (ks : List Key) : HO := .ext fun h => KSet w h p ks
def RepO (K : PySem.W.Frag) (ww : World) (H : Hp) (μ : List Addr) (p : Addr) : OB → Prop
  | .set xs => ∃ ks, keysD xs = some ks ∧ H p = some (KSetO ww p ks)
  | .dic kvs => ∃ ws : List (Key × V), H p = some (.dK ws) ∧ keysD (kvs.map Prod.fst) = some (ws.map Prod.fst) ∧ Reps K H μ (kvs.map Prod.snd) (ws.map Prod.snd)
  | .lst xs => ∃ vs, H p = some (.lst vs) ∧ Reps K H μ xs vs
  | .frz xs => ∃ vs, (∀ H', Keeps H H' → SqL K H' p vs) ∧ Reps K H μ xs vs
structure Gd (K : PySem.W.Frag) (ww : World) (H : Hp) (μ : List Addr) (st : Sto) : Prop where
  len : μ.length = st.length
  nd : ∀ (n m : Nat) (p : Addr) (o o2 : OB), μ[n]? = some p → μ[m]? = some p → st[n]? = some o → st[m]? = some o2 → mutO o = true → mutO o2 = true → n = m
  ob : ∀ (n : Nat) (p : Addr) (o : OB), μ[n]? = some p → st[n]? = some o → RepO K ww H μ p o
def EnvR (K : PySem.W.Frag) (H : Hp) (μ : List Addr) (σ : Sl) (τ : L2.St) : Prop := σ.length = τ.length ∧ ∀ (i : Nat) (d : D), σ[i]? = some (some d) → ∃ v, τ[i]? = some (some v) ∧ Rep K H μ d v
section
variable {K : PySem.W.Frag} {ww : World} {H H' : Hp} {μ μ' : List Addr} {st st' : Sto} {σ : Sl} {τ : L2.St}
theorem RepO.m {p : Addr} {o : OB} (h : RepO K ww H μ p o) (hm : mutO o = true → H p ≠ none → H' p = H p) (g : Gr H μ H' μ') : RepO K ww H' μ' p o := by
  cases o with
  | lst xs =>
    obtain ⟨vs, h1, h2⟩ := h
    exact ⟨vs, (hm rfl (by rw [h1]; simp)).trans h1, h2.m g⟩
  | frz xs =>
    obtain ⟨vs, h1, h2⟩ := h
    exact ⟨vs, fun H2 k => h1 H2 (g.1.trans k), h2.m g⟩
  | set xs =>
    obtain ⟨ks, h1, h2⟩ := h
    exact ⟨ks, h1, (hm rfl (by rw [h2]; simp)).trans h2⟩
  | dic kvs =>
    obtain ⟨vs, h1, h2, h3⟩ := h
    exact ⟨vs, (hm rfl (by rw [h1]; simp)).trans h1, h2, h3.m g⟩
/-- what may change is not a thing that is only read -/
theorem RepO.at {p : Addr} {o : OB} (h : RepO K ww H μ p o) (hm : mutO o = true) : ∃ u, H p = some u ∧ (∀ b i, u ≠ .frz b i) ∧ ∀ xs, u ≠ .tup xs := by
  cases o with
  | lst xs =>
    obtain ⟨vs, h1, h2⟩ := h
    exact ⟨_, h1, (fun _ _ e => nomatch e), (fun _ e => nomatch e)⟩
  | frz xs => cases hm
  | set xs =>
    obtain ⟨ks, h1, h2⟩ := h
    exact ⟨_, h2, (fun _ _ e => nomatch e), (fun _ e => nomatch e)⟩
  | dic kvs =>
    obtain ⟨vs, h1, h2, h3⟩ := h
    exact ⟨_, h1, (fun _ _ e => nomatch e), (fun _ e => nomatch e)⟩
theorem EnvR.m (e : EnvR K H μ σ τ) (g : Gr H μ H' μ') : EnvR K H' μ' σ τ := ⟨e.1, fun i d h => by
  obtain ⟨v, h1, h2⟩ := e.2 i d h
  exact ⟨v, h1, h2.m g⟩⟩
theorem EnvR.set {d : D} {v : V} (e : EnvR K H μ σ τ) (i : Nat) (r : Rep K H μ d v) : EnvR K H μ (σ.set i (some d)) (τ.set i (some v)) := by
  refine ⟨by rw [List.length_set, List.length_set]; exact e.1, fun j x h => ?_⟩
  by_cases hj : i = j
  · subst hj
    by_cases hl : i < σ.length
    · rw [List.getElem?_set_self hl] at h
      have h' := Option.some.inj (Option.some.inj h)
      subst h'
      exact ⟨v, List.getElem?_set_self (by rw [← e.1]; exact hl), r⟩
    · rw [List.getElem?_eq_none (by rw [List.length_set]; omega)] at h
      cases h
  · rw [List.getElem?_set_ne hj] at h
    obtain ⟨u, h1, h2⟩ := e.2 j x h
    exact ⟨u, by rw [List.getElem?_set_ne hj]; exact h1, h2⟩
theorem Gd.getL (g : Gd K ww H μ st) {n : Nat} {p : Addr} {xs : List D} (hp : μ[n]? = some p) (h : getL st n = some xs) : ∃ vs, SqL K H p vs ∧ Reps K H μ xs vs := by
  unfold Iv.getL at h
  cases e : st[n]? with
  | none => rw [e] at h; cases h
  | some o =>
    rw [e] at h
    have q := g.ob n p o hp e
    cases o with
    | lst ys =>
      cases h
      obtain ⟨vs, h1, h2⟩ := q
      exact ⟨vs, .inl (.inl h1), h2⟩
    | frz ys =>
      cases h
      obtain ⟨vs, h1, h2⟩ := q
      exact ⟨vs, h1 H (Keeps.refl H), h2⟩
    | set _ => cases h
    | dic _ => cases h
theorem Gd.getM (g : Gd K ww H μ st) {n : Nat} {p : Addr} {xs : List D} (hp : μ[n]? = some p) (h : getM st n = some xs) : ∃ vs, H p = some (.lst vs) ∧ Reps K H μ xs vs := by
  unfold Iv.getM at h
  cases e : st[n]? with
  | none => rw [e] at h; cases h
  | some o =>
    rw [e] at h
    have q := g.ob n p o hp e
    cases o with
    | lst ys => cases h; exact q
    | _ => cases h
theorem getM_get {n : Nat} {xs : List D} (h : getM st n = some xs) : st[n]? = some (.lst xs) := by
  unfold Iv.getM at h
  cases e : st[n]? with
  | none => rw [e] at h; cases h
  | some o =>
    rw [e] at h
    cases o with
    | lst ys => cases h; rfl
    | _ => cases h
theorem Gd.lt (g : Gd K ww H μ st) {n : Nat} {p : Addr} (hp : μ[n]? = some p) : n < st.length := by
  rw [← g.len]
  exact (List.getElem?_eq_some_iff.mp hp).1
theorem Gd.adr (g : Gd K ww H μ st) {n : Nat} {o : OB} (h : st[n]? = some o) : ∃ p, μ[n]? = some p := by
  have hn := (List.getElem?_eq_some_iff.mp h).1
  exact ⟨μ[n]'(by rw [g.len]; exact hn), List.getElem?_eq_getElem _⟩
/-- the heap grows, nothing that was tracked changes -/
theorem Gd.same (g : Gd K ww H μ st) (s : Same H H') : Gd K ww H' μ st :=
  ⟨g.len, g.nd, fun n p o h1 h2 => (g.ob n p o h1 h2).m (fun _ z => by cases e : H p with | none => exact absurd e z | some u => exact s _ _ e) ⟨Keeps.same s, [], by simp⟩⟩
theorem same_upd {p : Addr} {o : HO} (h : H p = none) : Same H (upd H p o) := fun b u q => by rw [upd_ne (ne_of_none q h)]; exact q
theorem gr_tup {p : Addr} {vs : List V} (h : H p = none) : Gr H μ (upd H p (.tup vs)) μ := ⟨Keeps.same (same_upd h), [], by simp⟩
theorem gr_any {p : Addr} {o : HO} (h : H p = none) : Gr H μ (upd H p o) μ := ⟨Keeps.same (same_upd h), [], by simp⟩
theorem gr_new {p : Addr} {o : HO} (h : H p = none) : Gr H μ (upd H p o) (μ ++ [p]) := ⟨Keeps.same (same_upd h), [p], rfl⟩
/-- a new thing -/
theorem Gd.newO (g : Gd K ww H μ st) {p : Addr} {u : HO} {o : OB} (h : H p = none) (r : RepO K ww (upd H p u) (μ ++ [p]) p o) : Gd K ww (upd H p u) (μ ++ [p]) (st ++ [o]) := by
  have gr : Gr H μ (upd H p u) (μ ++ [p]) := gr_new h
  have old : ∀ (n : Nat) (q : Addr) (o2 : OB), (μ ++ [p])[n]? = some q → (st ++ [o])[n]? = some o2 → n < μ.length → μ[n]? = some q ∧ st[n]? = some o2 ∧ (mutO o2 = true → q ≠ p) := by
    intro n q o2 h1 h2 hn
    rw [List.getElem?_append_left hn] at h1
    rw [List.getElem?_append_left (by rw [← g.len]; exact hn)] at h2
    refine ⟨h1, h2, fun hm => ?_⟩
    obtain ⟨v, h3, _⟩ := (g.ob n q _ h1 h2).at hm
    exact ne_of_none h3 h
  have hlast : ∀ (n : Nat) (q : Addr), (μ ++ [p])[n]? = some q → ¬ n < μ.length → n = μ.length ∧ q = p := by
    intro n q h1 hn
    have h2 := (List.getElem?_eq_some_iff.mp h1).1
    rw [List.length_append, List.length_singleton] at h2
    have e : n = μ.length := by omega
    subst e
    rw [List.getElem?_append_right (Nat.le_refl _), Nat.sub_self] at h1
    exact ⟨rfl, (Option.some.inj h1).symm⟩
  refine ⟨by rw [List.length_append, List.length_append, g.len]; rfl, fun n m q o1 o2 h1 h2 h3 h4 m1 m2 => ?_, fun n q o1 h1 h2 => ?_⟩
  · by_cases hn : n < μ.length
    · obtain ⟨a1, a2, a3⟩ := old n q o1 h1 h3 hn
      by_cases hm : m < μ.length
      · obtain ⟨b1, b2, _⟩ := old m q o2 h2 h4 hm
        exact g.nd n m q o1 o2 a1 b1 a2 b2 m1 m2
      · exact absurd (hlast m q h2 hm).2 (a3 m1)
    · obtain ⟨rfl, rfl⟩ := hlast n q h1 hn
      by_cases hm : m < μ.length
      · exact absurd rfl ((old m q o2 h2 h4 hm).2.2 m2)
      · exact (hlast m q h2 hm).1.symm
  · by_cases hn : n < μ.length
    · rw [List.getElem?_append_left hn] at h1
      rw [List.getElem?_append_left (by rw [← g.len]; exact hn)] at h2
      refine (g.ob n q o1 h1 h2).m (fun _ z => ?_) gr
      exact upd_ne (fun e => z (by rw [e]; exact h))
    · obtain ⟨rfl, rfl⟩ := hlast n q h1 hn
      rw [g.len, List.getElem?_append_right (Nat.le_refl _), Nat.sub_self] at h2
      cases h2
      exact r
/-- a new list -/
theorem Gd.new (g : Gd K ww H μ st) {p : Addr} {xs : List D} {vs : List V} (h : H p = none) (r : Reps K H μ xs vs) : Gd K ww (upd H p (.lst vs)) (μ ++ [p]) (st ++ [.lst xs]) :=
  g.newO (o := .lst xs) (u := .lst vs) h ⟨vs, upd_same, r.m (gr_new h)⟩
/-- a list is written -/
theorem gr_write {p : Addr} {vs ws : List V} (h : H p = some (.lst vs)) : Gr H μ (upd H p (.lst ws)) μ := ⟨⟨fun b xs e => by rw [upd_ne (by rintro rfl; rw [h] at e; cases e)]; exact e, fun b o u e => by rw [upd_ne (by rintro rfl; rw [h] at e; cases e)]; exact e⟩, [], by simp⟩
theorem gr_over {p : Addr} {v u : HO} (h : H p = some v) (h1 : ∀ b i, v ≠ .frz b i) (h2 : ∀ xs, v ≠ .tup xs) : Gr H μ (upd H p u) μ :=
  ⟨⟨fun b xs e => by rw [upd_ne (by rintro rfl; rw [h] at e; exact h2 xs (Option.some.inj e))]; exact e, fun b o i e => by rw [upd_ne (by rintro rfl; rw [h] at e; exact h1 o i (Option.some.inj e))]; exact e⟩, [], by simp⟩
/-- a thing is changed -/
theorem Gd.writeO (g : Gd K ww H μ st) {n : Nat} {p : Addr} {o o2 : OB} {u : HO} (hp : μ[n]? = some p) (hs : st[n]? = some o) (m1 : mutO o = true) (m2 : mutO o2 = true) (r : Gr H μ (upd H p u) μ → RepO K ww (upd H p u) μ p o2) : Gr H μ (upd H p u) μ ∧ Gd K ww (upd H p u) μ (st.set n o2) := by
  obtain ⟨v, hv, n1, n2⟩ := (g.ob n p o hp hs).at m1
  have gr : Gr H μ (upd H p u) μ := gr_over hv n1 n2
  have hn := (List.getElem?_eq_some_iff.mp hs).1
  have isl : ∀ (m : Nat) (z : OB), (st.set n o2)[m]? = some z → mutO z = true → ∃ z2, st[m]? = some z2 ∧ mutO z2 = true := by
    intro m z e em
    by_cases hm : n = m
    · subst hm; exact ⟨o, hs, m1⟩
    · rw [List.getElem?_set_ne hm] at e; exact ⟨z, e, em⟩
  refine ⟨gr, by rw [List.length_set]; exact g.len, fun a b q y z h1 h2 h3 h4 k1 k2 => ?_, fun m q z h1 h2 => ?_⟩
  · obtain ⟨y', h3, k3⟩ := isl a y h3 k1
    obtain ⟨z', h4, k4⟩ := isl b z h4 k2
    exact g.nd a b q y' z' h1 h2 h3 h4 k3 k4
  · by_cases hm : n = m
    · subst hm
      rw [List.getElem?_set_self hn] at h2
      cases h2
      rw [hp] at h1; cases h1
      exact r gr
    · rw [List.getElem?_set_ne hm] at h2
      refine (g.ob m q z h1 h2).m (fun em _ => upd_ne ?_) gr
      rintro rfl
      exact hm (g.nd n m q o z hp h1 hs h2 m1 em)
theorem Gd.write (g : Gd K ww H μ st) {n : Nat} {p : Addr} {xs ys : List D} {vs ws : List V} (hp : μ[n]? = some p) (hs : st[n]? = some (.lst xs)) (h : H p = some (.lst vs)) (r : Reps K H μ ys ws) : Gd K ww (upd H p (.lst ws)) μ (st.set n (.lst ys)) :=
  (g.writeO (o2 := .lst ys) (u := .lst ws) hp hs rfl rfl fun gr => ⟨ws, upd_same, r.m gr⟩).2
end
end Iv

namespace Iv
open PySem L2
/-! ### readings -/
def rdE (K : PySem.W.Frag) (ww : World) (f : SE) : TE := fun τ H Q => ∃ μ st σ d st', Gd K ww H μ st ∧ EnvR K H μ σ τ ∧ f σ st = some (d, st') ∧ ∀ μ' H' v, Gr H μ H' μ' → Gd K ww H' μ' st' → Rep K H' μ' d v → Q v H'
def rdT (K : PySem.W.Frag) (ww : World) (f : ST) : TT := fun τ H Q => ∃ μ st σ b st', Gd K ww H μ st ∧ EnvR K H μ σ τ ∧ f σ st = some (b, st') ∧ ∀ μ' H', Gr H μ H' μ' → Gd K ww H' μ' st' → Q b H'
def rdA (K : PySem.W.Frag) (ww : World) (f : SA) : TA := fun τ H Q => ∃ μ st σ ds st', Gd K ww H μ st ∧ EnvR K H μ σ τ ∧ f σ st = some (ds, st') ∧ ∀ μ' H' vs, Gr H μ H' μ' → Gd K ww H' μ' st' → Reps K H' μ' ds vs → Q vs H'
def Fin (K : PySem.W.Frag) (ww : World) (H : Hp) (μ : List Addr) (st' : Sto) (Dn : Ends) (r : R) : Prop :=
  ∀ μ' H', Gr H μ H' μ' → Gd K ww H' μ' st' → match r with
    | .nx σ' => ∀ τ', EnvR K H' μ' σ' τ' → Dn.nx τ' H'
    | .brk σ' => ∀ τ', EnvR K H' μ' σ' τ' → Dn.bk τ' H'
    | .cnt σ' => ∀ τ', EnvR K H' μ' σ' τ' → Dn.ct τ' H'
    | .ret d => ∀ v, Rep K H' μ' d v → Dn.rt v H'
def rdS (K : PySem.W.Frag) (ww : World) (f : SS) : TS := fun Dn τ H => ∃ μ st σ r st', Gd K ww H μ st ∧ EnvR K H μ σ τ ∧ f σ st = some (r, st') ∧ Fin K ww H μ st' Dn r
theorem Fin.m {K : PySem.W.Frag} {ww : World} {H H' : Hp} {μ μ' : List Addr} {st' : Sto} {Dn : Ends} {r : R} (h : Fin K ww H μ st' Dn r) (g : Gr H μ H' μ') : Fin K ww H' μ' st' Dn r := fun μ2 H2 g2 gd => h μ2 H2 (g.trans g2) gd

/-! ### weakening -/
theorem _root_.L2.PE.weak {X : Cx} {e : Expr} {t u : TE} (h : PE X e t) (w : ∀ τ H Q, u τ H Q → t τ H Q) : PE X e u := ⟨fun pins s σ H Q I q => h.run pins s σ H Q I (w σ H Q q)⟩
theorem _root_.L2.PT.weak {X : Cx} {e : Expr} {t u : TT} (h : PT X e t) (w : ∀ τ H Q, u τ H Q → t τ H Q) : PT X e u := ⟨fun pins s σ H Q I q => h.run pins s σ H Q I (w σ H Q q)⟩
theorem _root_.L2.PW.weak {X : Cx} {e : Expr} {t u : TT} (h : PW X e t) (w : ∀ τ H Q, u τ H Q → t τ H Q) : PW X e u := ⟨fun wh pins s σ H Q I q => h.run wh pins s σ H Q I (w σ H Q q)⟩
theorem _root_.L2.PA.weak {X : Cx} {e : List Expr} {t u : TA} (h : PA X e t) (w : ∀ τ H Q, u τ H Q → t τ H Q) : PA X e u := ⟨fun p pins s σ H Q I q => h.run p pins s σ H Q I (w σ H Q q)⟩
theorem _root_.L2.PS.weak {X : Cx} {e : Stmt} {t u : TS} (h : PS X e t) (w : ∀ Dn τ H, u Dn τ H → t Dn τ H) : PS X e u := ⟨fun pins s σ H Dn I q => h.run pins s σ H Dn I (w Dn σ H q)⟩
theorem _root_.L2.PSs.weak {X : Cx} {e : List Stmt} {t u : TS} (h : PSs X e t) (w : ∀ Dn τ H, u Dn τ H → t Dn τ H) : PSs X e u := ⟨fun pins s σ H Dn I q => h.run pins s σ H Dn I (w Dn σ H q)⟩
theorem _root_.L2.PTs.weak {X : Cx} {e : List Expr} {t u : TT} (h : PTs X e t) (w : ∀ τ H Q, u τ H Q → t τ H Q) : PTs X e u := ⟨fun pins s σ H Q I q => h.run pins s σ H Q I (w σ H Q q)⟩

section
variable {X : Cx} {K : PySem.W.Frag} {ww : World}
/-! ### names, constants -/
def varF (i : Nat) : SE := fun σ st => match σ[i]? with
  | some (some d) => some (d, st)
  | _ => none
def cstF (d : D) : SE := fun _ st => some (d, st)
theorem se_var {i : Nat} {e : Expr} (h : PE X e (tVar i)) : PE X e (rdE K ww (varF i)) := h.weak fun τ H Q ⟨μ, st, σ, d, st', g, er, hv, k⟩ => by
  unfold varF at hv
  split at hv
  · rename_i d' e'
    cases hv
    obtain ⟨v, h1, h2⟩ := er.2 i _ e'
    exact ⟨v, h1, k μ H v (Gr.refl H μ) g h2⟩
  · cases hv
/-- a constant of the text: whatever stands in the heap it is d -/
theorem se_cst {d : D} {e : Expr} {v : V} (h : PE X e (tC v)) (r : ∀ H μ, Rep K H μ d v) : PE X e (rdE K ww (cstF d)) := h.weak fun τ H Q ⟨μ, st, σ, d', st', g, er, hv, k⟩ => by
  cases hv
  exact k μ H v (Gr.refl H μ) g (r H μ)
theorem se_int {i : Int} {j pos} : PE X (.Constant (.int i) j pos) (rdE K ww (cstF (.int i))) := se_cst pe_int fun _ _ => by simp only [Rep]
theorem se_bl {i : Bool} {j pos} : PE X (.Constant (.bool i) j pos) (rdE K ww (cstF (.bl i))) := se_cst pe_bl fun _ _ => by simp only [Rep]
theorem se_non {j pos} : PE X (.Constant .none j pos) (rdE K ww (cstF .non)) := se_cst pe_non fun _ _ => by simp only [Rep]
theorem se_str {x j pos} : PE X (.Constant (.str x) j pos) (rdE K ww (cstF (.str x))) := se_cst pe_str fun _ _ => by simp only [Rep]

/-! ### two-place operations by values -/
abbrev Op2 := D → D → Sto → Option (D × Sto)
abbrev Op1 := D → Sto → Option (D × Sto)
abbrev OpN := List D → Sto → Option (D × Sto)
def binF (o : Op2) (f g : SE) : SE := fun σ st => bnd (f σ st) fun x st1 => bnd (g σ st1) fun y st2 => o x y st2
def unF (o : Op1) (f : SE) : SE := fun σ st => bnd (f σ st) fun x st1 => o x st1
def Ok2 (K : PySem.W.Frag) (ww : World) (r : R2) (o : Op2) : Prop := ∀ H μ st x y vx vy d st' (Q : VK), Gd K ww H μ st → Rep K H μ x vx → Rep K H μ y vy → o x y st = some (d, st') →
  (∀ μ' H' v, Gr H μ H' μ' → Gd K ww H' μ' st' → Rep K H' μ' d v → Q v H') → r vx vy H Q
def Ok1 (K : PySem.W.Frag) (ww : World) (r : V → Hp → VK → Prop) (o : Op1) : Prop := ∀ H μ st x vx d st' (Q : VK), Gd K ww H μ st → Rep K H μ x vx → o x st = some (d, st') →
  (∀ μ' H' v, Gr H μ H' μ' → Gd K ww H' μ' st' → Rep K H' μ' d v → Q v H') → r vx H Q
def OkN (K : PySem.W.Frag) (ww : World) (r : List V → Hp → VK → Prop) (o : OpN) : Prop := ∀ H μ st xs vs d st' (Q : VK), Gd K ww H μ st → Reps K H μ xs vs → o xs st = some (d, st') →
  (∀ μ' H' v, Gr H μ H' μ' → Gd K ww H' μ' st' → Rep K H' μ' d v → Q v H') → r vs H Q
theorem rd_op {r : R2} {o : Op2} {f g : SE} (h : Ok2 K ww r o) : ∀ τ H Q, rdE K ww (binF o f g) τ H Q → tOp r (rdE K ww f) (rdE K ww g) τ H Q := fun τ H Q ⟨μ, st, σ, d, st', gd, er, hv, k⟩ => by
  obtain ⟨x, s1, h1, hv⟩ := bnd_eq hv
  obtain ⟨y, s2, h2, hv⟩ := bnd_eq hv
  refine ⟨μ, st, σ, x, s1, gd, er, h1, fun μ1 H1 vx g1 d1 r1 => ?_⟩
  refine ⟨μ1, s1, σ, y, s2, d1, er.m g1, h2, fun μ2 H2 vy g2 d2 r2 => ?_⟩
  exact h H2 μ2 s2 x y vx vy d st' Q d2 (r1.m g2) r2 hv fun μ3 H3 v g3 d3 r3 => k μ3 H3 v ((g1.trans g2).trans g3) d3 r3
theorem se_bin {op : Operator} {r : R2} {o : Op2} {a b : Expr} {f g : SE} {pos : Pos} (ho : OpR X (binaryOp op) r) (h : Ok2 K ww r o) (ha : PE X a (rdE K ww f)) (hb : PE X b (rdE K ww g)) : PE X (.BinOp a op b pos) (rdE K ww (binF o f g)) := (pe_op ho ha hb).weak (rd_op h)
theorem se_cmp {op : CmpOp} {r : R2} {o : Op2} {a b : Expr} {f g : SE} {pos : Pos} (ho : OpR X (compareOp op) r) (h : Ok2 K ww r o) (ha : PE X a (rdE K ww f)) (hb : PE X b (rdE K ww g)) (hm : behindInMarks op b = false) : PE X (.Compare a [op] [b] pos) (rdE K ww (binF o f g)) := (pe_cmpR ho ha hb hm).weak (rd_op h)
theorem se_ix {r : R2} {o : Op2} {a b : Expr} {f g : SE} {pos : Pos} (ho : IxR X r) (h : Ok2 K ww r o) (ha : PE X a (rdE K ww f)) (hb : PE X b (rdE K ww g)) (hs : PlainIx b) : PE X (.Subscript a b pos) (rdE K ww (binF o f g)) := (pe_ix ho ha hb hs).weak (rd_op h)
theorem se_un {op : UnaryOp} {r : V → Hp → VK → Prop} {o : Op1} {a : Expr} {f : SE} {pos : Pos} (ho : UnR X (unaryOp op) r) (h : Ok1 K ww r o) (ha : PE X a (rdE K ww f)) : PE X (.UnaryOp op a pos) (rdE K ww (unF o f)) := (pe_un ho ha).weak fun τ H Q ⟨μ, st, σ, d, st', gd, er, hv, k⟩ => by
  obtain ⟨x, s1, h1, hv⟩ := bnd_eq hv
  refine ⟨μ, st, σ, x, s1, gd, er, h1, fun μ1 H1 vx g1 d1 r1 => ?_⟩
  exact h H1 μ1 s1 x vx d st' Q d1 r1 hv fun μ3 H3 v g3 d3 r3 => k μ3 H3 v (g1.trans g3) d3 r3

/-! ### arguments -/
def nilF : SA := fun _ st => some ([], st)
def consF (f : SE) (g : SA) : SA := fun σ st => bnd (f σ st) fun x st1 => bnd (g σ st1) fun xs st2 => some (x :: xs, st2)
theorem sa_nil : PA X [] (rdA K ww nilF) := pa_nil.weak fun τ H Q ⟨μ, st, σ, d, st', gd, er, hv, k⟩ => by
  cases hv
  exact k μ H [] (Gr.refl H μ) gd reps_nil
theorem sa_cons {e : Expr} {es : List Expr} {f : SE} {g : SA} (ha : PE X e (rdE K ww f)) (hr : PA X es (rdA K ww g)) (hs : starEach (e :: es) X.env = (false, eval e X.env) :: starEach es X.env := by rfl) : PA X (e :: es) (rdA K ww (consF f g)) := (pa_cons ha hr hs).weak fun τ H Q ⟨μ, st, σ, d, st', gd, er, hv, k⟩ => by
  obtain ⟨x, s1, h1, hv⟩ := bnd_eq hv
  obtain ⟨xs, s2, h2, hv⟩ := bnd_eq hv
  cases hv
  refine ⟨μ, st, σ, x, s1, gd, er, h1, fun μ1 H1 vx g1 d1 r1 => ?_⟩
  refine ⟨μ1, s1, σ, xs, _, d1, er.m g1, h2, fun μ2 H2 vs g2 d2 r2 => ?_⟩
  exact k μ2 H2 _ (g1.trans g2) d2 (reps_cons (r1.m g2) r2)
def appF (o : OpN) (f : SA) : SE := fun σ st => bnd (f σ st) fun xs st1 => o xs st1
def mapp (o : Op2) (f : SE) (g : SE) : SE := binF o f g
theorem rd_app {r : List V → Hp → VK → Prop} {o : OpN} {f : SA} (h : OkN K ww r o) : ∀ τ H Q, rdE K ww (appF o f) τ H Q → tCB r (rdA K ww f) τ H Q := fun τ H Q ⟨μ, st, σ, d, st', gd, er, hv, k⟩ => by
  obtain ⟨x, s1, h1, hv⟩ := bnd_eq hv
  refine ⟨μ, st, σ, x, s1, gd, er, h1, fun μ1 H1 vx g1 d1 r1 => ?_⟩
  exact h H1 μ1 s1 x vx d st' Q d1 r1 hv fun μ3 H3 v g3 d3 r3 => k μ3 H3 v (g1.trans g3) d3 r3
theorem se_callB {x : Str} {p pos : Pos} {e : Expr} {es : List Expr} {id : String} {r : List V → Hp → VK → Prop} {o : OpN} {f : SA} (hc : CallR X (.builtin id) r) (h : OkN K ww r o) (hg : Gl X x) (hm : X.mg x = none) (hv : bootBuiltins x = some (.builtin id)) (ha : PA X (e :: es) (rdA K ww f)) (hn : x ≠ "__name__" := by decide) (hdb : (x == ("__debug__" : Str)) = false := by decide)
    (he : starEach (e :: es) X.env = (false, eval e X.env) :: starEach es X.env := by rfl) (hpl : (backTo pos (starEach es X.env)).any (·.1) = false := by rfl) :
    PE X (.Call (.Name x p) (e :: es) [] pos) (rdE K ww (appF o f)) := (pe_callB hc hg hm hv ha hn hdb he hpl).weak (rd_app h)
theorem se_callTy {x : Str} {p pos : Pos} {e : Expr} {es : List Expr} {T : String} {r : List V → Hp → VK → Prop} {o : OpN} {f : SA} (hc : CallR X (.type T) r) (h : OkN K ww r o) (hg : Gl X x) (hm : X.mg x = none) (hv : bootBuiltins x = some (.type T)) (ha : PA X (e :: es) (rdA K ww f)) (hn : x ≠ "__name__" := by decide) (hdb : (x == ("__debug__" : Str)) = false := by decide)
    (he : starEach (e :: es) X.env = (false, eval e X.env) :: starEach es X.env := by rfl) (hpl : (backTo pos (starEach es X.env)).any (·.1) = false := by rfl) :
    PE X (.Call (.Name x p) (e :: es) [] pos) (rdE K ww (appF o f)) := (pe_callTy hc hg hm hv ha hn hdb he hpl).weak (rd_app h)
/-- a method of a built-in type -/
abbrev OpM := D → List D → Sto → Option (D × Sto)
def OkM (K : PySem.W.Frag) (ww : World) (r : V → List V → Hp → VK → Prop) (o : OpM) : Prop := ∀ H μ st x xs vx vs d st' (Q : VK), Gd K ww H μ st → Rep K H μ x vx → Reps K H μ xs vs → o x xs st = some (d, st') →
  (∀ μ' H' v, Gr H μ H' μ' → Gd K ww H' μ' st' → Rep K H' μ' d v → Q v H') → r vx vs H Q
def isTy (T : String) (d : D) (st : Sto) : Bool := match T, d with
  | "list", .loc n => (getL st n).isSome
  | "str", .str _ => true
  | _, _ => false
def bmF (T : String) (o : OpM) (f : SE) (g : SA) : SE := fun σ st => bnd (f σ st) fun x st1 => if isTy T x st1 = true then bnd (g σ st1) fun xs st2 => o x xs st2 else none
def bm0F (T : String) (o : OpM) (f : SE) : SE := fun σ st => bnd (f σ st) fun x st1 => if isTy T x st1 = true then o x [] st1 else none

/-! ### tuples, lists -/
def tupF (f : SA) : SE := fun σ st => bnd (f σ st) fun xs st1 => if xs.length ≤ LIM then some (.tup xs, st1) else none
def lstF (f : SA) : SE := fun σ st => bnd (f σ st) fun xs st1 => if xs.length ≤ LIM then some (.loc st1.length, st1 ++ [.lst xs]) else none
theorem rep_tup {H : Hp} {μ : List Addr} {p : Addr} {ds : List D} {vs : List V} (h : SqT K H p vs) (nd : nst ds = true → NoD K H p) (r : Reps K H μ ds vs) : Rep K H μ (.tup ds) (.ref p) := by
  simp only [Rep]
  exact ⟨p, vs, rfl, ⟨h, nd⟩, r⟩
theorem rep_loc {H : Hp} {μ : List Addr} {p : Addr} {n : Nat} (h : μ[n]? = some p) : Rep K H μ (.loc n) (.ref p) := by
  simp only [Rep]
  exact ⟨p, rfl, h⟩
theorem new_tup {H : Hp} {μ : List Addr} {st : Sto} {ds : List D} {vs : List V} {Q : VK} (gd : Gd K ww H μ st) (r : Reps K H μ ds vs) (k : ∀ μ' H' v, Gr H μ H' μ' → Gd K ww H' μ' st → Rep K H' μ' (.tup ds) v → Q v H') :
    ∀ (p : Addr) (o : Obj), H p = none → o.cls = .type "tuple" → o.dict = none → Q (.ref p) (upd H p (.frz o (.tup vs))) := fun p o hp hc hd => by
  have g : Gr H μ (upd H p (.frz o (.tup vs))) μ := gr_any hp
  exact k μ _ _ g (gd.same (same_upd hp)) (rep_tup (.inl (.inr ⟨o, upd_same⟩)) (fun _ => .inl ⟨o, _, upd_same, hc, hd⟩) (r.m g))
/-- one that is not of texts alone -/
theorem new_tupP {H : Hp} {μ : List Addr} {st : Sto} {ds : List D} {vs : List V} {Q : VK} (gd : Gd K ww H μ st) (hn : nst ds = false) (r : Reps K H μ ds vs) (k : ∀ μ' H' v, Gr H μ H' μ' → Gd K ww H' μ' st → Rep K H' μ' (.tup ds) v → Q v H') :
    ∀ p, H p = none → Q (.ref p) (upd H p (.tup vs)) := fun p hp => by
  have g : Gr H μ (upd H p (.tup vs)) μ := gr_tup hp
  exact k μ _ _ g (gd.same (same_upd hp)) (rep_tup (.inl (.inl upd_same)) (fun z => by rw [hn] at z; cases z) (r.m g))
/-- a tuple display, the object told -/
def tTupN (t : TA) : TE := fun τ H Q => t τ H fun xs H1 => xs.length ≤ sizeLine ∧ ∀ (p : Addr) (o : Obj), H1 p = none → o.cls = .type "tuple" → o.dict = none → Q (.ref p) (upd H1 p (.frz o (.tup xs)))
theorem pe_tupN {es : List Expr} {x1} {pos : Pos} {t : TA} (h : PA X es t) : PE X (.Tuple es x1 pos) (tTupN t) :=
  ⟨fun pins s σ H Q I hq => wpAny_Tuple_spliced (thn (h.run pos pins s σ H _ I hq) fun us s1 ⟨xs, H1, I1, r, z, q⟩ => ⟨by rw [← r.length]; exact z,
    .ref s1.heap.objs.size, upd H1 s1.heap.objs.size (.frz _ (.tup xs)), I1.laid (t' := s1.toks) (fun b u e => Heap.get?_push_of_some _ e) (Nat.le_refl _) ⟨Heap.get?_push_size _ rfl, z, us, r, ⟨_, Heap.get?_push_size _ rfl, rfl, _, rfl⟩⟩, rfl, q _ _ (I1.hok.fresh (Nat.le_refl _)) rfl rfl⟩)⟩
theorem new_lst {H : Hp} {μ : List Addr} {st : Sto} {ds : List D} {vs : List V} {Q : VK} (gd : Gd K ww H μ st) (r : Reps K H μ ds vs) (k : ∀ μ' H' v, Gr H μ H' μ' → Gd K ww H' μ' (st ++ [.lst ds]) → Rep K H' μ' (.loc st.length) v → Q v H') :
    ∀ p, H p = none → Q (.ref p) (upd H p (.lst vs)) := fun p hp => by
  have g : Gr H μ (upd H p (.lst vs)) (μ ++ [p]) := gr_new hp
  refine k _ _ _ g (gd.new hp r) (rep_loc ?_)
  rw [← gd.len, List.getElem?_append_right (Nat.le_refl _), Nat.sub_self]
  rfl
theorem se_tup {es : List Expr} {x1} {pos : Pos} {f : SA} (h : PA X es (rdA K ww f)) : PE X (.Tuple es x1 pos) (rdE K ww (tupF f)) := (pe_tupN h).weak fun τ H Q ⟨μ, st, σ, d, st', gd, er, hv, k⟩ => by
  obtain ⟨x, s1, h1, hv⟩ := bnd_eq hv
  split at hv
  · rename_i hl
    cases hv
    refine ⟨μ, st, σ, x, _, gd, er, h1, fun μ1 H1 vs g1 d1 r1 => ⟨lim_ok (by rw [← r1.len]; exact hl), ?_⟩⟩
    exact new_tup d1 r1 fun μ3 H3 v g3 d3 r3 => k μ3 H3 v (g1.trans g3) d3 r3
  · cases hv
theorem se_lst {es : List Expr} {pos : Pos} {f : SA} (h : PA X es (rdA K ww f)) : PE X (.List es pos) (rdE K ww (lstF f)) := (pe_lst h).weak fun τ H Q ⟨μ, st, σ, d, st', gd, er, hv, k⟩ => by
  obtain ⟨x, s1, h1, hv⟩ := bnd_eq hv
  split at hv
  · rename_i hl
    cases hv
    refine ⟨μ, st, σ, x, _, gd, er, h1, fun μ1 H1 vs g1 d1 r1 => ⟨lim_ok (by rw [← r1.len]; exact hl), ?_⟩⟩
    exact new_lst d1 r1 fun μ3 H3 v g3 d3 r3 => k μ3 H3 v (g1.trans g3) d3 r3
  · cases hv

/-! ### truth, tests -/
def truth (d : D) (st : Sto) : Option Bool := match d with
  | .non => some false
  | .bl b => some b
  | .int i => some (i != 0)
  | .str x => if x.length ≤ LIM then some ((x.length : Int) != 0) else none
  | .tup xs => some (!xs.isEmpty)
  | .loc n => (getL st n).map fun xs => !xs.isEmpty
theorem empty_of {H : Hp} {μ : List Addr} : ∀ {ds : List D} {vs : List V}, Reps K H μ ds vs → (!ds.isEmpty) = !vs.isEmpty
  | [], vs, h => by simp only [Reps] at h; rw [h]; rfl
  | d :: ds, vs, h => by simp only [Reps] at h; obtain ⟨v, ws, rfl, _, _⟩ := h; rfl
theorem tru_of {H : Hp} {μ : List Addr} {st : Sto} {d : D} {v : V} {b : Bool} (g : Gd K ww H μ st) (r : Rep K H μ d v) (h : truth d st = some b) : TruV K v H b := by
  cases d with
  | non => simp only [Rep] at r; subst r; exact (Option.some.inj h).symm
  | bl c => simp only [Rep] at r; subst r; exact (Option.some.inj h).symm
  | int i => simp only [Rep] at r; subst r; exact (Option.some.inj h).symm
  | str x =>
    simp only [Rep] at r; subst r
    unfold truth at h
    simp only at h
    split at h
    · rename_i hl
      exact ⟨lim_ok hl, (Option.some.inj h).symm⟩
    · cases h
  | tup xs =>
    simp only [Rep] at r
    obtain ⟨p, vs, rfl, ⟨s, _⟩, rs⟩ := r
    exact .inr (.inl ⟨vs, s, by rw [← empty_of rs]; exact (Option.some.inj h).symm⟩)
  | loc n =>
    simp only [Rep] at r
    obtain ⟨p, rfl, hp⟩ := r
    unfold truth at h
    simp only at h
    cases e : getL st n with
    | none => rw [e] at h; cases h
    | some xs =>
      rw [e] at h
      obtain ⟨vs, s, rs⟩ := g.getL hp e
      exact .inl ⟨vs, s, by rw [← empty_of rs]; exact (Option.some.inj h).symm⟩
def truF (f : SE) : ST := fun σ st => bnd (f σ st) fun x st1 => (truth x st1).map fun b => (b, st1)
def cmpT (o : Op2) (f g : SE) : ST := truF (binF o f g)
theorem rd_tru {f : SE} {τ : L2.St} {H : Hp} {Q : Bool → Hp → Prop} (h : rdT K ww (truF f) τ H Q) : rdE K ww f τ H fun x H' => ∃ k, TruV K x H' k ∧ Q k H' := by
  obtain ⟨μ, st, σ, b, st', gd, er, hv, k⟩ := h
  obtain ⟨x, s1, h1, hv⟩ := bnd_eq hv
  cases e : truth x s1 with
  | none => rw [e] at hv; cases hv
  | some c =>
    rw [e] at hv
    cases hv
    exact ⟨μ, st, σ, x, _, gd, er, h1, fun μ1 H1 v g1 d1 r1 => ⟨b, tru_of d1 r1 e, k μ1 H1 g1 d1⟩⟩
theorem st_tru {a : Expr} {f : SE} (ha : PE X a (rdE X.K X.w f)) (he : ∀ whole, isTrue a X.env whole = (do let v ← whole; standAt a.pos; holding [v] (truthy v)) := by intro _; rfl) : PT X a (rdT X.K X.w (truF f)) :=
  (pt_truth ha he).weak fun τ H Q h => rd_tru h
/-- a comparison as a test -/
theorem st_cmp {op : CmpOp} {r : R2} {o : Op2} {a b : Expr} {f g : SE} {pos : Pos} (ho : OpR X (compareOp op) r) (h : Ok2 K ww r o) (hb' : ∀ x y st d st', o x y st = some (d, st') → ∃ b, d = .bl b) (ha : PE X a (rdE K ww f)) (hb : PE X b (rdE K ww g)) (hm : behindInMarks op b = false) : PT X (.Compare a [op] [b] pos) (rdT K ww (cmpT o f g)) :=
  (pt_cmpR ho ha hb hm).weak fun τ H Q ⟨μ, st, σ, b, st', gd, er, hv, k⟩ => by
    obtain ⟨x, s1, h1, hv⟩ := bnd_eq hv
    cases e : truth x s1 with
    | none => rw [e] at hv; cases hv
    | some c =>
      rw [e] at hv
      cases hv
      refine rd_op h τ H _ ⟨μ, st, σ, x, _, gd, er, h1, fun μ1 H1 v g1 d1 r1 => ?_⟩
      unfold binF at h1
      obtain ⟨_, _, _, h1⟩ := bnd_eq h1
      obtain ⟨_, _, _, h1⟩ := bnd_eq h1
      obtain ⟨c, rfl⟩ := hb' _ _ _ _ _ h1
      simp only [Rep] at r1
      cases e
      exact ⟨_, r1, k μ1 H1 g1 d1⟩
def andT (f g : ST) : ST := fun σ st => bnd (f σ st) fun b st1 => if b = true then g σ st1 else some (false, st1)
def orT (f g : ST) : ST := fun σ st => bnd (f σ st) fun b st1 => if b = true then some (true, st1) else g σ st1
def notT (f : ST) : ST := fun σ st => bnd (f σ st) fun b st1 => some (!b, st1)
theorem rd_andT {f g : ST} : ∀ τ H Q, rdT K ww (andT f g) τ H Q → tAnd (rdT K ww f) (rdT K ww g) τ H Q := fun τ H Q ⟨μ, st, σ, b, st', gd, er, hv, k⟩ => by
  obtain ⟨c, s1, h1, hv⟩ := bnd_eq hv
  refine ⟨μ, st, σ, c, s1, gd, er, h1, fun μ1 H1 g1 d1 => ?_⟩
  cases c with
  | true => exact ⟨μ1, s1, σ, b, st', d1, er.m g1, hv, fun μ2 H2 g2 d2 => k μ2 H2 (g1.trans g2) d2⟩
  | false =>
    cases hv
    exact k μ1 H1 g1 d1
theorem rd_orT {f g : ST} : ∀ τ H Q, rdT K ww (orT f g) τ H Q → tOr (rdT K ww f) (rdT K ww g) τ H Q := fun τ H Q ⟨μ, st, σ, b, st', gd, er, hv, k⟩ => by
  obtain ⟨c, s1, h1, hv⟩ := bnd_eq hv
  refine ⟨μ, st, σ, c, s1, gd, er, h1, fun μ1 H1 g1 d1 => ?_⟩
  cases c with
  | false => exact ⟨μ1, s1, σ, b, st', d1, er.m g1, hv, fun μ2 H2 g2 d2 => k μ2 H2 (g1.trans g2) d2⟩
  | true =>
    cases hv
    exact k μ1 H1 g1 d1
section
variable {a b : Expr} {rest : List Expr} {f g : ST} {pos : Pos}
theorem sw_and1 (ha : PT X a (rdT K ww f)) : PW X (.BoolOp .And [a] pos) (rdT K ww f) := pw_and1 ha
theorem sw_or1 (ha : PT X a (rdT K ww f)) : PW X (.BoolOp .Or [a] pos) (rdT K ww f) := pw_or1 ha
theorem sw_and (ha : PT X a (rdT K ww f)) (hb : PW X (.BoolOp .And (b :: rest) pos) (rdT K ww g)) : PW X (.BoolOp .And (a :: b :: rest) pos) (rdT K ww (andT f g)) := (pw_and ha hb).weak rd_andT
theorem sw_or (ha : PT X a (rdT K ww f)) (hb : PW X (.BoolOp .Or (b :: rest) pos) (rdT K ww g)) : PW X (.BoolOp .Or (a :: b :: rest) pos) (rdT K ww (orT f g)) := (pw_or ha hb).weak rd_orT
theorem st_not (ha : PT X a (rdT K ww f)) : PT X (.UnaryOp .Not a pos) (rdT K ww (notT f)) := (pt_not ha).weak fun τ H Q ⟨μ, st, σ, b, st', gd, er, hv, k⟩ => by
  obtain ⟨c, s1, h1, hv⟩ := bnd_eq hv
  cases hv
  exact ⟨μ, st, σ, c, _, gd, er, h1, fun μ1 H1 g1 d1 => k μ1 H1 g1 d1⟩
end
/-! and, or, not as values -/
def andF (f g : SE) : SE := fun σ st => bnd (f σ st) fun x st1 => (truth x st1).bind fun b => if b = true then g σ st1 else some (x, st1)
def orF (f g : SE) : SE := fun σ st => bnd (f σ st) fun x st1 => (truth x st1).bind fun b => if b = true then some (x, st1) else g σ st1
def notF (f : SE) : SE := fun σ st => bnd (f σ st) fun x st1 => (truth x st1).map fun b => (.bl (!b), st1)
def ifF (c : ST) (f g : SE) : SE := fun σ st => bnd (c σ st) fun b st1 => if b = true then f σ st1 else g σ st1
section
variable {a b c : Expr} {rest : List Expr} {f g : SE} {t : ST} {pos : Pos}
theorem se_one {op} (ha : PE X a (rdE K ww f)) : PE X (.BoolOp op [a] pos) (rdE K ww f) := pe_one ha
theorem se_and (ha : PE X a (rdE X.K X.w f)) (hb : PE X (.BoolOp .And (b :: rest) pos) (rdE X.K X.w g)) : PE X (.BoolOp .And (a :: b :: rest) pos) (rdE X.K X.w (andF f g)) := (pe_andT ha hb).weak fun τ H Q ⟨μ, st, σ, d, st', gd, er, hv, k⟩ => by
  obtain ⟨x, s1, h1, hv⟩ := bnd_eq hv
  cases e : truth x s1 with
  | none => rw [e] at hv; cases hv
  | some y =>
    rw [e] at hv
    refine ⟨μ, st, σ, x, s1, gd, er, h1, fun μ1 H1 v g1 d1 r1 => ⟨y, tru_of d1 r1 e, ?_⟩⟩
    cases y with
    | true => exact ⟨μ1, s1, σ, d, st', d1, er.m g1, hv, fun μ2 H2 v2 g2 d2 r2 => k μ2 H2 v2 (g1.trans g2) d2 r2⟩
    | false =>
      cases hv
      exact k μ1 H1 v g1 d1 r1
theorem se_or (ha : PE X a (rdE X.K X.w f)) (hb : PE X (.BoolOp .Or (b :: rest) pos) (rdE X.K X.w g)) : PE X (.BoolOp .Or (a :: b :: rest) pos) (rdE X.K X.w (orF f g)) := (pe_orT ha hb).weak fun τ H Q ⟨μ, st, σ, d, st', gd, er, hv, k⟩ => by
  obtain ⟨x, s1, h1, hv⟩ := bnd_eq hv
  cases e : truth x s1 with
  | none => rw [e] at hv; cases hv
  | some y =>
    rw [e] at hv
    refine ⟨μ, st, σ, x, s1, gd, er, h1, fun μ1 H1 v g1 d1 r1 => ⟨y, tru_of d1 r1 e, ?_⟩⟩
    cases y with
    | false => exact ⟨μ1, s1, σ, d, st', d1, er.m g1, hv, fun μ2 H2 v2 g2 d2 r2 => k μ2 H2 v2 (g1.trans g2) d2 r2⟩
    | true =>
      cases hv
      exact k μ1 H1 v g1 d1 r1
theorem se_not (ha : PE X a (rdE X.K X.w f)) : PE X (.UnaryOp .Not a pos) (rdE X.K X.w (notF f)) := (pe_notT ha).weak fun τ H Q ⟨μ, st, σ, d, st', gd, er, hv, k⟩ => by
  obtain ⟨x, s1, h1, hv⟩ := bnd_eq hv
  cases e : truth x s1 with
  | none => rw [e] at hv; cases hv
  | some y =>
    rw [e] at hv
    cases hv
    refine ⟨μ, st, σ, x, _, gd, er, h1, fun μ1 H1 v g1 d1 r1 => ⟨y, tru_of d1 r1 e, k μ1 H1 _ g1 d1 (by simp only [Rep])⟩⟩
theorem se_if (hc : PT X c (rdT K ww t)) (ha : PE X a (rdE K ww f)) (hb : PE X b (rdE K ww g)) : PE X (.IfExp c a b pos) (rdE K ww (ifF t f g)) := (pe_ifExp hc ha hb).weak fun τ H Q ⟨μ, st, σ, d, st', gd, er, hv, k⟩ => by
  obtain ⟨y, s1, h1, hv⟩ := bnd_eq hv
  refine ⟨μ, st, σ, y, s1, gd, er, h1, fun μ1 H1 g1 d1 => ?_⟩
  cases y with
  | true => exact ⟨μ1, s1, σ, d, st', d1, er.m g1, hv, fun μ2 H2 v2 g2 d2 r2 => k μ2 H2 v2 (g1.trans g2) d2 r2⟩
  | false => exact ⟨μ1, s1, σ, d, st', d1, er.m g1, hv, fun μ2 H2 v2 g2 d2 r2 => k μ2 H2 v2 (g1.trans g2) d2 r2⟩
end
end
end Iv

namespace Iv
open PySem L2
section
variable {X : Cx} {K : PySem.W.Frag} {ww : World}
/-! ### methods of built-in types -/
theorem ty_of {H : Hp} {μ : List Addr} {st : Sto} {T : String} {d : D} {v : V} (gd : Gd K ww H μ st) (r : Rep K H μ d v) (h : isTy T d st = true) : tyV K T v H := by
  unfold isTy at h
  split at h
  · rename_i n
    cases e : getL st n with
    | none => rw [e] at h; cases h
    | some xs =>
      simp only [Rep] at r
      obtain ⟨p, rfl, hp⟩ := r
      obtain ⟨vs, h1, _⟩ := gd.getL hp e
      exact .inl ⟨rfl, vs, h1⟩
  · simp only [Rep] at r
    subst r
    rfl
  · cases h
theorem se_bm {o e : Expr} {es : List Expr} {name : Str} {apos cpos : Pos} {T id : String} {r : V → List V → Hp → VK → Prop} {op : OpM} {f : SE} {g : SA}
    (pa : PlainAttrs T) (slot : Slot T name id) (hty : typeOf (.builtin id) = pure (.type "method_descriptor")) (hm : MtR X id r) (h : OkM X.K X.w r op) (ho : PE X o (rdE X.K X.w f)) (ha : PA X (e :: es) (rdA X.K X.w g))
    (hbase : attributeBase o name X.env (eval o X.env) = eval o X.env := by rfl)
    (hfew : ((backTo cpos (starEach (e :: es) X.env)).all (fun x => !x.1) && (backToKw cpos (keywordEach [] X.env)).all (fun x => x.1.isSome)
      && decide ((e :: es).length + ([] : List Keyword).length + (if ([] : List Keyword).isEmpty then 0 else 1) < 30)) = true := by rfl)
    (hline : (apos.endLine == cpos.line) = true := by rfl) (hs : starEach (e :: es) X.env = (false, eval e X.env) :: starEach es X.env := by rfl) (hplain : (backTo cpos (starEach es X.env)).any (·.1) = false := by rfl) :
    PE X (.Call (.Attribute o name apos) (e :: es) [] cpos) (rdE X.K X.w (bmF T op f g)) :=
  (pe_bm pa slot hty hm ho ha hbase hfew hline hs hplain).weak fun τ H Q ⟨μ, st, σ, d, st', gd, er, hv, k⟩ => by
    obtain ⟨x, s1, h1, hv⟩ := bnd_eq hv
    split at hv
    · rename_i ht
      obtain ⟨xs, s2, h2, hv⟩ := bnd_eq hv
      refine ⟨μ, st, σ, x, s1, gd, er, h1, fun μ1 H1 v g1 d1 r1 => ⟨ty_of d1 r1 ht, ?_⟩⟩
      refine ⟨μ1, s1, σ, xs, s2, d1, er.m g1, h2, fun μ2 H2 vs g2 d2 r2 => ?_⟩
      exact h H2 μ2 s2 x xs v vs d st' Q d2 (r1.m g2) r2 hv fun μ3 H3 v3 g3 d3 r3 => k μ3 H3 v3 ((g1.trans g2).trans g3) d3 r3
    · cases hv
theorem se_bm0 {o : Expr} {name : Str} {apos cpos : Pos} {T id : String} {r : V → List V → Hp → VK → Prop} {op : OpM} {f : SE}
    (pa : PlainAttrs T) (slot : Slot T name id) (hty : typeOf (.builtin id) = pure (.type "method_descriptor")) (hm : MtR X id r) (h : OkM X.K X.w r op) (ho : PE X o (rdE X.K X.w f))
    (hbase : attributeBase o name X.env (eval o X.env) = eval o X.env := by rfl) (hline : (apos.endLine == cpos.line) = true := by rfl) :
    PE X (.Call (.Attribute o name apos) [] [] cpos) (rdE X.K X.w (bm0F T op f)) :=
  (pe_bm0 pa slot hty hm ho hbase hline).weak fun τ H Q ⟨μ, st, σ, d, st', gd, er, hv, k⟩ => by
    obtain ⟨x, s1, h1, hv⟩ := bnd_eq hv
    split at hv
    · rename_i ht
      refine ⟨μ, st, σ, x, s1, gd, er, h1, fun μ1 H1 v g1 d1 r1 => ⟨ty_of d1 r1 ht, ?_⟩⟩
      exact h H1 μ1 s1 x [] v [] d st' Q d1 r1 reps_nil hv fun μ3 H3 v3 g3 d3 r3 => k μ3 H3 v3 (g1.trans g3) d3 r3
    · cases hv
/-! ### slices -/
abbrev SO := Sl → Sto → Option (Option Int × Sto)
def noneO : SO := fun _ st => some (none, st)
def someO (f : SE) : SO := fun σ st => bnd (f σ st) fun x st1 => match x with
  | .int i => some (some i, st1)
  | _ => none
def rdO (K : PySem.W.Frag) (ww : World) (f : SO) : TO := fun τ H Q => ∃ μ st σ o st', Gd K ww H μ st ∧ EnvR K H μ σ τ ∧ f σ st = some (o, st') ∧ ∀ μ' H', Gr H μ H' μ' → Gd K ww H' μ' st' → Q o H'
theorem _root_.L2.PO.weak {X : Cx} {e : Option Expr} {t u : TO} (h : PO X e t) (w : ∀ τ H Q, u τ H Q → t τ H Q) : PO X e u := ⟨fun pins s σ H Q I q => h.run pins s σ H Q I (w σ H Q q)⟩
theorem so_none : PO X none (rdO K ww noneO) := po_none.weak fun τ H Q ⟨μ, st, σ, o, st', gd, er, hv, k⟩ => by
  cases hv
  exact k μ H (Gr.refl H μ) gd
theorem so_some {e : Expr} {f : SE} (h : PE X e (rdE K ww f)) : PO X (some e) (rdO K ww (someO f)) := (po_some h).weak fun τ H Q ⟨μ, st, σ, o, st', gd, er, hv, k⟩ => by
  obtain ⟨x, s1, h1, hv⟩ := bnd_eq hv
  split at hv
  · rename_i i
    cases hv
    refine ⟨μ, st, σ, _, _, gd, er, h1, fun μ1 H1 v g1 d1 r1 => ?_⟩
    simp only [Rep] at r1
    exact ⟨i, r1, k μ1 H1 g1 d1⟩
  · cases hv
abbrev OpS := D → Option Int → Option Int → Sto → Option (D × Sto)
def OkS (K : PySem.W.Frag) (ww : World) (r : V → Option Int → Option Int → Hp → VK → Prop) (o : OpS) : Prop := ∀ H μ st x vx lo hi d st' (Q : VK), Gd K ww H μ st → Rep K H μ x vx → o x lo hi st = some (d, st') →
  (∀ μ' H' v, Gr H μ H' μ' → Gd K ww H' μ' st' → Rep K H' μ' d v → Q v H') → r vx lo hi H Q
def slF (o : OpS) (f : SE) (lo hi : SO) : SE := fun σ st => bnd (f σ st) fun x s1 => bnd (lo σ s1) fun l s2 => bnd (hi σ s2) fun h s3 => o x l h s3
theorem se_slice {e : Expr} {lo hi : Option Expr} {p2 pos : Pos} {r : V → Option Int → Option Int → Hp → VK → Prop} {op : OpS} {f : SE} {l h : SO} (hr : SlR X r) (ok : OkS K ww r op) (he : PE X e (rdE K ww f)) (hl : PO X lo (rdO K ww l)) (hh : PO X hi (rdO K ww h)) :
    PE X (.Subscript e (.Slice lo hi none p2) pos) (rdE K ww (slF op f l h)) := (pe_slice hr he hl hh).weak fun τ H Q ⟨μ, st, σ, d, st', gd, er, hv, k⟩ => by
  obtain ⟨x, s1, h1, hv⟩ := bnd_eq hv
  obtain ⟨a, s2, h2, hv⟩ := bnd_eq hv
  obtain ⟨b, s3, h3, hv⟩ := bnd_eq hv
  refine ⟨μ, st, σ, x, s1, gd, er, h1, fun μ1 H1 v g1 d1 r1 => ?_⟩
  refine ⟨μ1, s1, σ, a, s2, d1, er.m g1, h2, fun μ2 H2 g2 d2 => ?_⟩
  refine ⟨μ2, s2, σ, b, s3, d2, er.m (g1.trans g2), h3, fun μ3 H3 g3 d3 => ?_⟩
  exact ok H3 μ3 s3 x v a b d st' Q d3 (r1.m (g2.trans g3)) hv fun μ4 H4 v4 g4 d4 r4 => k μ4 H4 v4 (((g1.trans g2).trans g3).trans g4) d4 r4

/-! ### statements -/
def nxS : SS := fun σ st => some (.nx σ, st)
def seqS (f g : SS) : SS := fun σ st => match f σ st with
  | some (.nx σ', st1) => g σ' st1
  | r => r
theorem ss_nil : PSs X [] (rdS K ww nxS) := pss_nil.weak fun Dn τ H ⟨μ, st, σ, r, st', gd, er, hv, k⟩ => by
  cases hv
  exact k μ H (Gr.refl H μ) gd τ er
theorem ss_one {s : Stmt} {f : SS} (h : PS X s (rdS K ww f)) : PSs X [s] (rdS K ww f) := pss_one h
theorem ss_cons {s : Stmt} {rest : List Stmt} {f g : SS} (h : PS X s (rdS K ww f)) (h2 : PSs X rest (rdS K ww g)) : PSs X (s :: rest) (rdS K ww (seqS f g)) := (pss_cons h h2).weak fun Dn τ H ⟨μ, st, σ, r, st', gd, er, hv, k⟩ => by
  unfold seqS at hv
  cases e : f σ st with
  | none => rw [e] at hv; cases hv
  | some p =>
    obtain ⟨r1, s1⟩ := p
    rw [e] at hv
    cases r1 with
    | nx σ1 =>
      refine ⟨μ, st, σ, _, s1, gd, er, e, fun μ1 H1 g1 d1 τ1 e1 => ?_⟩
      exact ⟨μ1, s1, σ1, r, st', d1, e1, hv, k.m g1⟩
    | brk σ1 =>
      cases hv
      exact ⟨μ, st, σ, _, _, gd, er, e, k⟩
    | cnt σ1 =>
      cases hv
      exact ⟨μ, st, σ, _, _, gd, er, e, k⟩
    | ret d =>
      cases hv
      exact ⟨μ, st, σ, _, _, gd, er, e, k⟩
theorem ss_pass {pos : Pos} : PS X (.Pass pos) (rdS K ww nxS) := ps_pass.weak fun Dn τ H ⟨μ, st, σ, r, st', gd, er, hv, k⟩ => by
  cases hv
  exact k μ H (Gr.refl H μ) gd τ er
def brkS : SS := fun σ st => some (.brk σ, st)
def cntS : SS := fun σ st => some (.cnt σ, st)
def retNS : SS := fun _ st => some (.ret .non, st)
def neverS : SS := fun _ _ => none
theorem ss_break {pos : Pos} : PS X (.Break pos) (rdS K ww brkS) := ps_break.weak fun Dn τ H ⟨μ, st, σ, r, st', gd, er, hv, k⟩ => by
  cases hv
  exact k μ H (Gr.refl H μ) gd τ er
theorem ss_continue {pos : Pos} : PS X (.Continue pos) (rdS K ww cntS) := ps_continue.weak fun Dn τ H ⟨μ, st, σ, r, st', gd, er, hv, k⟩ => by
  cases hv
  exact k μ H (Gr.refl H μ) gd τ er
theorem ss_retN {pos : Pos} : PS X (.Return none pos) (rdS K ww retNS) := ps_retN.weak fun Dn τ H ⟨μ, st, σ, r, st', gd, er, hv, k⟩ => by
  cases hv
  exact k μ H (Gr.refl H μ) gd .non (by simp only [Rep])
theorem ss_never {s : Stmt} : PS X s (rdS K ww neverS) := ps_never.weak fun Dn τ H ⟨μ, st, σ, r, st', gd, er, hv, k⟩ => by cases hv
def exS (f : SE) : SS := fun σ st => bnd (f σ st) fun _ st1 => some (.nx σ, st1)
theorem ss_expr {e : Expr} {f : SE} {pos : Pos} (he : PE X e (rdE K ww f)) (hs : swapsWith e none pos.line X.env = pure false := by rfl) : PS X (.Expr e pos) (rdS K ww (exS f)) := (ps_expr he hs).weak fun Dn τ H ⟨μ, st, σ, r, st', gd, er, hv, k⟩ => by
  obtain ⟨x, s1, h1, hv⟩ := bnd_eq hv
  cases hv
  exact ⟨μ, st, σ, x, _, gd, er, h1, fun μ1 H1 v g1 d1 r1 => k μ1 H1 g1 d1 τ (er.m g1)⟩
def retS (f : SE) : SS := fun σ st => bnd (f σ st) fun d st1 => some (.ret d, st1)
theorem ss_ret {e : Expr} {f : SE} {pos : Pos} (he : PE X e (rdE K ww f)) : PS X (.Return (some e) pos) (rdS K ww (retS f)) := (ps_ret he).weak fun Dn τ H ⟨μ, st, σ, r, st', gd, er, hv, k⟩ => by
  obtain ⟨x, s1, h1, hv⟩ := bnd_eq hv
  cases hv
  exact ⟨μ, st, σ, x, _, gd, er, h1, fun μ1 H1 v g1 d1 r1 => k μ1 H1 g1 d1 v r1⟩
def ifS (c : ST) (f g : SS) : SS := fun σ st => bnd (c σ st) fun b st1 => if b = true then f σ st1 else g σ st1
theorem ss_if {c : Expr} {a b : List Stmt} {t : ST} {f g : SS} {pos : Pos} (hc : PT X c (rdT K ww t)) (ha : PSs X a (rdS K ww f)) (hb : PSs X b (rdS K ww g)) : PS X (.If c a b pos) (rdS K ww (ifS t f g)) := (ps_if hc ha hb).weak fun Dn τ H ⟨μ, st, σ, r, st', gd, er, hv, k⟩ => by
  obtain ⟨y, s1, h1, hv⟩ := bnd_eq hv
  refine ⟨μ, st, σ, y, s1, gd, er, h1, fun μ1 H1 g1 d1 => ?_⟩
  cases y with
  | true => exact ⟨μ1, s1, σ, r, st', d1, er.m g1, hv, k.m g1⟩
  | false => exact ⟨μ1, s1, σ, r, st', d1, er.m g1, hv, k.m g1⟩

/-! ### targets -/
abbrev Tg := D → Sl → Option Sl
def nmG (i : Nat) : Tg := fun d σ => some (σ.set i (some d))
def nmsG : List Nat → List D → Sl → Option Sl
  | [], [], σ => some σ
  | i :: is, d :: ds, σ => nmsG is ds (σ.set i (some d))
  | _, _, _ => none
def tupG (is : List Nat) : Tg := fun d σ => match d with
  | .tup ds => nmsG is ds σ
  | _ => none
def OkG (K : PySem.W.Frag) (gg : TG) (g : Tg) : Prop := ∀ H μ σ τ d v σ1 (Q : L2.St → Hp → Prop), EnvR K H μ σ τ → Rep K H μ d v → g d σ = some σ1 → (∀ τ1, EnvR K H μ σ1 τ1 → Q τ1 H) → gg v τ H Q
def OkGs (K : PySem.W.Frag) (gg : TGs) (is : List Nat) : Prop := ∀ H μ σ τ ds vs σ1 (Q : L2.St → Hp → Prop), EnvR K H μ σ τ → Reps K H μ ds vs → nmsG is ds σ = some σ1 → (∀ τ1, EnvR K H μ σ1 τ1 → Q τ1 H) → gg vs τ H Q
theorem ok_name {i : Nat} : OkG K (gName i) (nmG i) := fun H μ σ τ d v σ1 Q er r e k => by
  cases e
  exact k _ (er.set i r)
theorem ok_gnil : OkGs K gNil [] := fun H μ σ τ ds vs σ1 Q er r e k => by
  cases ds with
  | nil =>
    cases e
    simp only [Reps] at r
    exact ⟨r, k τ er⟩
  | cons _ _ => cases e
theorem ok_gcons {i : Nat} {is : List Nat} {u : TGs} (h : OkGs K u is) : OkGs K (gCons (gName i) u) (i :: is) := fun H μ σ τ ds vs σ1 Q er r e k => by
  cases ds with
  | nil => cases e
  | cons d ds =>
    simp only [Reps] at r
    obtain ⟨v, ws, rfl, r1, r2⟩ := r
    exact ⟨v, ws, rfl, h H μ _ _ ds ws σ1 Q (er.set i r1) r2 e k⟩
theorem nms_len : ∀ {is : List Nat} {ds : List D} {σ σ1 : Sl}, nmsG is ds σ = some σ1 → ds.length = is.length
  | [], [], _, _, _ => rfl
  | i :: is, d :: ds, σ, σ1, h => by rw [List.length_cons, List.length_cons, nms_len (is := is) (ds := ds) h]
  | [], _ :: _, _, _, h => by cases h
  | _ :: _, [], _, _, h => by cases h
theorem ok_tup {is : List Nat} {n : Nat} {u : TGs} (h : OkGs K u is) (hn : is.length = n) : OkG K (gTup K n u) (tupG is) := fun H μ σ τ d v σ1 Q er r e k => by
  cases d with
  | tup ds =>
    simp only [Rep] at r
    obtain ⟨p, vs, rfl, ⟨s, _⟩, rs⟩ := r
    exact ⟨p, vs, rfl, s, by rw [← rs.len, nms_len e, hn], h H μ σ τ ds vs σ1 Q er rs e k⟩
  | non => cases e
  | bl _ => cases e
  | int _ => cases e
  | str _ => cases e
  | loc _ => cases e
def asgS (g : Tg) (f : SE) : SS := fun σ st => bnd (f σ st) fun d st1 => (g d σ).map fun σ1 => (.nx σ1, st1)
theorem rd_asg {g : Tg} {gg : TG} {f : SE} (hg : OkG K gg g) : ∀ Dn τ H, rdS K ww (asgS g f) Dn τ H → tAsg (rdE K ww f) gg Dn τ H := fun Dn τ H ⟨μ, st, σ, r, st', gd, er, hv, k⟩ => by
  obtain ⟨x, s1, h1, hv⟩ := bnd_eq hv
  cases e : g x σ with
  | none => rw [e] at hv; cases hv
  | some σ1 =>
    rw [e] at hv
    cases hv
    exact ⟨μ, st, σ, x, _, gd, er, h1, fun μ1 H1 v g1 d1 r1 => hg H1 μ1 σ τ x v σ1 _ (er.m g1) r1 e fun τ1 e1 => k μ1 H1 g1 d1 τ1 e1⟩
theorem ss_set {i : Nat} {x : Str} {e : Expr} {f : SE} {pos pos' : Pos} (hN : X.N.Nodup) (hi : X.N[i]? = some x) (hx : Loc X.env.scope x) (he : PE X e (rdE K ww f)) (hs : swapsWith e (some (.Name x pos')) pos.line X.env = pure false := by rfl) (hf : X.fn x = true ∨ X.env.scope.names.lookup x = some .local := by first | exact .inl rfl | exact .inr rfl | assumption) :
    PS X (.Assign [.Name x pos'] e pos) (rdS K ww (asgS (nmG i) f)) := (ps_set hN hi hx he hs hf).weak (rd_asg ok_name)
theorem ss_asg {tg e : Expr} {gg : TG} {g : Tg} {f : SE} {pos : Pos} (he : PE X e (rdE K ww f)) (hg : PG X tg gg) (ok : OkG K gg g) (hs : swapsWithSole [tg] e pos.line X.env = pure false := by rfl) (hw : swappedStores [tg] e X.env = pure none := by rfl)
    (ha : List.map (fun x => x.2) (assignEach [tg] X.env) = [assign tg X.env] := by rfl) : PS X (.Assign [tg] e pos) (rdS K ww (asgS g f)) := (ps_asg he hg hs hw ha).weak (rd_asg ok)
/-- o[i] = e, o a list -/
def setS (fo fi f : SE) : SS := fun σ st => bnd (f σ st) fun d s1 => bnd (fo σ s1) fun o s2 => bnd (fi σ s2) fun i s3 => match o, i with
  | .loc n, .int k => (getM s3 n).bind fun xs => (ixN xs.length k).map fun j => (.nx σ, s3.set n (.lst (xs.set j d)))
  | _, _ => none
theorem ss_setIx {o i e : Expr} {f fo fi : SE} {pos p1 : Pos} (he : PE X e (rdE K ww f)) (ho : PE X o (rdE K ww fo)) (hi : PE X i (rdE K ww fi)) (hs : swapsWithSole [.Subscript o i p1] e pos.line X.env = pure false := by rfl) (hw : swappedStores [.Subscript o i p1] e X.env = pure none := by rfl)
    (ha : List.map (fun x => x.2) (assignEach [.Subscript o i p1] X.env) = [assign (.Subscript o i p1) X.env] := by rfl) (hpg : PG X (.Subscript o i p1) (gSub (rdE K ww fo) (rdE K ww fi) rSetL)) : PS X (.Assign [.Subscript o i p1] e pos) (rdS K ww (setS fo fi f)) := (ps_asg he hpg hs hw ha).weak fun Dn τ H ⟨μ, st, σ, r, st', gd, er, hv, k⟩ => by
  obtain ⟨x, s1, h1, hv⟩ := bnd_eq hv
  obtain ⟨y, s2, h2, hv⟩ := bnd_eq hv
  obtain ⟨z, s3, h3, hv⟩ := bnd_eq hv
  refine ⟨μ, st, σ, x, s1, gd, er, h1, fun μ1 H1 v g1 d1 r1 => ?_⟩
  refine ⟨μ1, s1, σ, y, s2, d1, er.m g1, h2, fun μ2 H2 vo g2 d2 r2 => ?_⟩
  refine ⟨μ2, s2, σ, z, s3, d2, er.m (g1.trans g2), h3, fun μ3 H3 vi g3 d3 r3 => ?_⟩
  cases y with
  | loc n =>
    cases z with
    | int kk =>
      cases e1 : getM s3 n with
      | none => simp only [e1, Option.bind_none] at hv; cases hv
      | some xs =>
        simp only [e1, Option.bind_some] at hv
        cases e2 : ixN xs.length kk with
        | none => rw [e2] at hv; cases hv
        | some j =>
          rw [e2] at hv
          cases hv
          have r2' := r2.m g3
          simp only [Rep] at r2' r3
          obtain ⟨p, rfl, hp⟩ := r2'
          obtain ⟨vs, hH, rs⟩ := d3.getM hp e1
          have gw : Gr H3 μ3 (upd H3 p (.lst (vs.set j v))) μ3 := gr_write hH
          exact ⟨p, vs, kk, j, rfl, r3, hH, by rw [← rs.len]; exact e2, k μ3 _ (((g1.trans g2).trans g3).trans gw) (d3.write hp (getM_get e1) hH (rs.set (r1.m (g2.trans g3)))) τ (er.m (((g1.trans g2).trans g3).trans gw))⟩
    | _ => cases hv
  | _ => cases hv
def augS (i : Nat) (o : Op2) (f : SE) : SS := fun σ st => match σ[i]? with
  | some (some x) => bnd (f σ st) fun y s1 => bnd (o x y s1) fun z s2 => some (.nx (σ.set i (some z)), s2)
  | _ => none
theorem ss_aug {i : Nat} {x : Str} {e : Expr} {f : SE} {op : Operator} {ti : TIp} {o : Op2} {pos pos' : Pos} (hN : X.N.Nodup) (hi : X.N[i]? = some x) (hx : Loc X.env.scope x) (he : PE X e (rdE K ww f)) (ho : PIp X op ti) (ok : Ok2 K ww ti o) (hf : X.fn x = true ∨ X.env.scope.names.lookup x = some .local := by first | exact .inl rfl | exact .inr rfl | assumption) :
    PS X (.AugAssign (.Name x pos') op e pos) (rdS K ww (augS i o f)) := (ps_aug hN hi hx he ho hf).weak fun Dn τ H ⟨μ, st, σ, r, st', gd, er, hv, k⟩ => by
  unfold augS at hv
  split at hv
  · rename_i d e1
    obtain ⟨y, s1, h1, hv⟩ := bnd_eq hv
    obtain ⟨z, s2, h2, hv⟩ := bnd_eq hv
    cases hv
    obtain ⟨v, hv1, r1⟩ := er.2 i d e1
    refine ⟨v, hv1, μ, st, σ, y, s1, gd, er, h1, fun μ1 H1 w g1 d1 r2 => ?_⟩
    exact ok H1 μ1 s1 d y v w z _ _ d1 (r1.m g1) r2 h2 fun μ3 H3 v3 g3 d3 r3 => k μ3 H3 (g1.trans g3) d3 _ ((er.m (g1.trans g3)).set i r3)
  · cases hv
end
end Iv

namespace Iv
open PySem L2
section
variable {X : Cx} {K : PySem.W.Frag} {ww : World}
/-! ### while -/
def whlV (c : ST) (b : SS) : Nat → Sl → Sto → Option (R × Sto)
  | 0, _, _ => none
  | m + 1, σ, st => bnd (c σ st) fun t s1 => if t = true then (match b σ s1 with
      | some (.nx σ2, s2) => whlV c b m σ2 s2
      | some (.cnt σ2, s2) => whlV c b m σ2 s2
      | some (.brk σ2, s2) => some (.nx σ2, s2)
      | some (.ret d, s2) => some (.ret d, s2)
      | none => none) else some (.nx σ, s1)
def whlS (n : Nat) (c : ST) (b : SS) : SS := fun σ st => whlV c b n σ st
theorem ss_while {n : Nat} {c : Expr} {body : List Stmt} {t : ST} {b : SS} {pos : Pos} (hp : PassesOwn (model X.prog X.w) X.A X.env X.xe) (hc : PT X c (rdT K ww t)) (hb : PSs X body (rdS K ww b)) : PS X (.While c body [] pos) (rdS K ww (whlS n t b)) :=
  (ps_while hp hc hb).weak fun Dn τ H ⟨μ, st, σ, r, st', gd, er, hv, k⟩ => by
    refine ⟨fun m τ1 H1 => ∃ μ1 s1 σ1, Gd K ww H1 μ1 s1 ∧ EnvR K H1 μ1 σ1 τ1 ∧ whlV t b m σ1 s1 = some (r, st') ∧ Fin K ww H1 μ1 st' Dn r, ⟨n, μ, st, σ, gd, er, hv, k⟩, ?_⟩
    rintro m τ1 H1 ⟨μ1, s1, σ1, d1, e1, hv1, k1⟩
    cases m with
    | zero => cases hv1
    | succ m =>
      unfold whlV at hv1
      obtain ⟨y, s2, h2, hv1⟩ := bnd_eq hv1
      refine ⟨μ1, s1, σ1, y, s2, d1, e1, h2, fun μ2 H2 g2 d2 => ?_⟩
      cases y with
      | false =>
        cases hv1
        exact k1 μ2 H2 g2 d2 τ1 (e1.m g2)
      | true =>
        rw [if_pos rfl] at hv1 ⊢
        refine ⟨fun τ3 H3 => ∃ μ3 s3 σ3, Gd K ww H3 μ3 s3 ∧ EnvR K H3 μ3 σ3 τ3 ∧ whlV t b m σ3 s3 = some (r, st') ∧ Fin K ww H3 μ3 st' Dn r, fun τ3 H3 q => ⟨m, Nat.lt_succ_self m, q⟩, ?_⟩
        cases eb : b σ1 s2 with
        | none => rw [eb] at hv1; cases hv1
        | some p =>
          obtain ⟨r3, s3⟩ := p
          rw [eb] at hv1
          refine ⟨μ2, s2, σ1, r3, s3, d2, e1.m g2, eb, fun μ4 H4 g4 d4 => ?_⟩
          cases r3 with
          | nx σ3 => exact fun τ4 e4 => ⟨μ4, s3, σ3, d4, e4, hv1, k1.m (g2.trans g4)⟩
          | cnt σ3 => exact fun τ4 e4 => ⟨μ4, s3, σ3, d4, e4, hv1, k1.m (g2.trans g4)⟩
          | brk σ3 =>
            cases hv1
            exact fun τ4 e4 => k1 μ4 H4 (g2.trans g4) d4 τ4 e4
          | ret d =>
            cases hv1
            exact fun v rv => k1 μ4 H4 (g2.trans g4) d4 v rv

/-! ### what a loop walks -/
def enumD : Nat → List D → List D
  | _, [] => []
  | i, d :: ds => .tup [.int (i : Int), d] :: enumD (i + 1) ds
inductive It where
  | cns (xs : List D) | lst (n : Nat) | enm (n : Nat)
def items : It → Sto → Option (List D)
  | .cns xs, _ => some xs
  | .lst n, st => getL st n
  | .enm n, st => (getL st n).map (enumD 0)
abbrev SJ := Sl → Sto → Option (It × Sto)
def ItR (K : PySem.W.Frag) (ww : World) (H : Hp) (μ : List Addr) (J : It) (J' : L2.It) : Prop := ∀ μ2 H2 st2 xs, Gr H μ H2 μ2 → Gd K ww H2 μ2 st2 → items J st2 = some xs →
  (∀ i, xs.length ≤ i → J'.stop i H2) ∧ ∀ (i : Nat) (d : D), xs[i]? = some d → J'.go i H2 ∧ ∀ x H3, J'.yld i H2 x H3 → Same H2 H3 ∧ Rep K H3 μ2 d x
def rdI (K : PySem.W.Frag) (ww : World) (f : SJ) : TI := fun τ H R => ∃ μ st σ J st', Gd K ww H μ st ∧ EnvR K H μ σ τ ∧ f σ st = some (J, st') ∧ ∀ μ' H' J', Gr H μ H' μ' → Gd K ww H' μ' st' → ItR K ww H' μ' J J' → R J' H'
def charsD (x : Str) : List D := x.cps.toList.map fun c => .str ⟨#[c]⟩
def anyI (f : SE) : SJ := fun σ st => bnd (f σ st) fun d s1 => match d with
  | .loc n => (getL s1 n).map fun _ => (.lst n, s1)
  | .tup xs => some (.cns xs, s1)
  | .str x => some (.cns (charsD x), s1)
  | _ => none
theorem sql_inj {H : Hp} {p : Addr} {xs ys : List V} {h1 : Prop} (_ : h1) (a : SqL K H p xs) (b : SqL K H p ys) (inj : ∀ {a b}, SqL K H p a → SqL K H p b → a = b) : xs = ys := inj a b
theorem si_any {tg e : Expr} {f : SE} (h : PE X e (rdE X.K X.w f)) : PI X tg e (rdI X.K X.w (anyI f)) := ⟨fun pins s τ H R I hw => by
  obtain ⟨μ, st, σ, J, st', gd, er, hv, k⟩ := hw
  obtain ⟨d, s1, h1, hv⟩ := bnd_eq hv
  cases d with
  | loc n =>
    cases e1 : getL s1 n with
    | none => simp only [e1, Option.map_none] at hv; cases hv
    | some xs =>
      simp only [e1, Option.map_some] at hv
      cases hv
      refine (pi_list h).run pins s τ H R I ⟨μ, st, σ, _, _, gd, er, h1, fun μ1 H1 v g1 d1 r1 => ?_⟩
      simp only [Rep] at r1
      obtain ⟨p, rfl, hp⟩ := r1
      obtain ⟨vs, hs, rs⟩ := d1.getL hp e1
      refine ⟨p, rfl, ⟨vs, hs⟩, k μ1 H1 _ g1 d1 fun μ2 H2 st2 ys g2 d2 e2 => ?_⟩
      obtain ⟨ws, hs2, rs2⟩ := d2.getL (g2.get hp) e2
      refine ⟨fun i hi => ⟨ws, hs2, by rw [← rs2.len]; exact hi⟩, fun i d hd => ?_⟩
      obtain ⟨v, hv1, rv⟩ := rs2.get hd
      exact ⟨⟨ws, v, hs2, hv1⟩, fun x H3 ⟨e3, y⟩ => by
        subst e3
        have e4 := y ws hs2
        rw [hv1] at e4
        cases e4
        exact ⟨Same.refl _, rv⟩⟩
  | tup xs =>
    cases hv
    refine (pi_tup h).run pins s τ H R I ⟨μ, st, σ, _, _, gd, er, h1, fun μ1 H1 v g1 d1 r1 => ?_⟩
    have r1' := r1
    simp only [Rep] at r1
    obtain ⟨p, vs, rfl, ⟨hs, _⟩, rs⟩ := r1
    refine ⟨p, rfl, ⟨vs, hs⟩, k μ1 H1 _ g1 d1 fun μ2 H2 st2 ys g2 d2 e2 => ?_⟩
    cases e2
    have hs2 := g2.1.sqT hs
    have rs2 := rs.m g2
    refine ⟨fun i hi => ⟨vs, hs2, by rw [← rs2.len]; exact hi⟩, fun i d hd => ?_⟩
    obtain ⟨v, hv1, rv⟩ := rs2.get hd
    exact ⟨⟨vs, v, hs2, hv1⟩, fun x H3 ⟨e3, y⟩ => by
      subst e3
      have e4 := y vs hs2
      rw [hv1] at e4
      cases e4
      exact ⟨Same.refl _, rv⟩⟩
  | str x =>
    cases hv
    refine (pi_str h).run pins s τ H R I ⟨μ, st, σ, _, _, gd, er, h1, fun μ1 H1 v g1 d1 r1 => ?_⟩
    simp only [Rep] at r1
    refine ⟨x, r1, k μ1 H1 _ g1 d1 fun μ2 H2 st2 ys g2 d2 e2 => ?_⟩
    cases e2
    refine ⟨fun i hi => (show x.cps.size ≤ i by simpa [charsD] using hi), fun i d hd => ?_⟩
    unfold charsD at hd
    rw [List.getElem?_map] at hd
    cases e5 : x.cps.toList[i]? with
    | none => rw [e5] at hd; cases hd
    | some c =>
      rw [e5] at hd
      cases hd
      have e6 : x.cps[i]? = some c := by simpa using e5
      refine ⟨(Array.getElem?_eq_some_iff.mp e6).1, fun z H3 ⟨e3, c', e7, e8⟩ => ?_⟩
      subst e3
      rw [e6] at e7
      cases e7
      exact ⟨Same.refl _, by simp only [Rep]; exact e8⟩
  | non => cases hv
  | bl _ => cases hv
  | int _ => cases hv⟩
def rngD (lo : Int) : Nat → List D
  | n => (List.range n).map fun i => .int (lo + (i : Nat))
def rngI1 (f : SA) : SJ := fun σ st => bnd (f σ st) fun ds s1 => match ds with
  | [.int j] => if -(2 ^ 62) ≤ j ∧ j < 2 ^ 62 then some (.cns (rngD 0 j.toNat), s1) else none
  | _ => none
def rngI2 (f : SA) : SJ := fun σ st => bnd (f σ st) fun ds s1 => match ds with
  | [.int i, .int j] => if -(2 ^ 62) ≤ i ∧ i < 2 ^ 62 ∧ -(2 ^ 62) ≤ j ∧ j < 2 ^ 62 then some (.cns (rngD i (j - i).toNat), s1) else none
  | _ => none
theorem itr_rng {H : Hp} {μ : List Addr} {lo : Int} {n : Nat} : ItR K ww H μ (.cns (rngD lo n)) (Itr lo n) := fun μ2 H2 st2 xs g2 d2 e2 => by
  cases e2
  refine ⟨fun i hi => (show n ≤ i by simpa [rngD] using hi), fun i d hd => ?_⟩
  unfold rngD at hd
  rw [List.getElem?_map] at hd
  by_cases hi : i < n
  · rw [List.getElem?_range hi] at hd
    cases hd
    exact ⟨hi, fun x H3 ⟨e3, e4⟩ => by subst e3; exact ⟨Same.refl _, by simp only [Rep]; exact e4⟩⟩
  · rw [List.getElem?_eq_none (by simpa using hi)] at hd
    cases hd
theorem reps1 {H : Hp} {μ : List Addr} {d : D} {vs : List V} (h : Reps K H μ [d] vs) : ∃ v, vs = [v] ∧ Rep K H μ d v := by
  simp only [Reps] at h
  obtain ⟨v, ws, rfl, r, rfl⟩ := h
  exact ⟨v, rfl, r⟩
theorem reps2 {H : Hp} {μ : List Addr} {d e : D} {vs : List V} (h : Reps K H μ [d, e] vs) : ∃ v w, vs = [v, w] ∧ Rep K H μ d v ∧ Rep K H μ e w := by
  simp only [Reps] at h
  obtain ⟨v, ws, rfl, r, w, us, rfl, r2, rfl⟩ := h
  exact ⟨v, w, rfl, r, r2⟩
theorem si_rng1 {tg a : Expr} {f : SA} {p pos : Pos} (hg : Gl X "range") (hm : X.mg "range" = none) (ha : PA X [a] (rdA K ww f)) (hs : starEach [a] X.env = [(false, eval a X.env)] := by rfl) : PI X tg (.Call (.Name "range" p) [a] [] pos) (rdI K ww (rngI1 f)) := ⟨fun pins s τ H R I hw => by
  obtain ⟨μ, st, σ, J, st', gd, er, hv, k⟩ := hw
  obtain ⟨ds, s1, h1, hv⟩ := bnd_eq hv
  split at hv
  · split at hv
    · rename_i j hj
      cases hv
      refine (pi_range1 hg hm ha hs).run pins s τ H R I ⟨μ, st, σ, _, _, gd, er, h1, fun μ1 H1 vs g1 d1 r1 => ?_⟩
      obtain ⟨v, rfl, rv⟩ := reps1 r1
      simp only [Rep] at rv
      subst rv
      exact ⟨_, rfl, hj.1, hj.2, k μ1 H1 _ g1 d1 itr_rng⟩
    · cases hv
  · cases hv⟩
theorem si_rng2 {tg a b : Expr} {f : SA} {p pos : Pos} (hg : Gl X "range") (hm : X.mg "range" = none) (ha : PA X [a, b] (rdA K ww f)) (hs : starEach [a, b] X.env = [(false, eval a X.env), (false, eval b X.env)] := by rfl) (hs2 : starEach [b] X.env = [(false, eval b X.env)] := by rfl) : PI X tg (.Call (.Name "range" p) [a, b] [] pos) (rdI K ww (rngI2 f)) := ⟨fun pins s τ H R I hw => by
  obtain ⟨μ, st, σ, J, st', gd, er, hv, k⟩ := hw
  obtain ⟨ds, s1, h1, hv⟩ := bnd_eq hv
  split at hv
  · split at hv
    · rename_i i j hj
      cases hv
      refine (pi_range2 hg hm ha hs hs2).run pins s τ H R I ⟨μ, st, σ, _, _, gd, er, h1, fun μ1 H1 vs g1 d1 r1 => ?_⟩
      obtain ⟨v, w, rfl, rv, rw'⟩ := reps2 r1
      simp only [Rep] at rv rw'
      subst rv rw'
      exact ⟨_, _, rfl, hj, k μ1 H1 _ g1 d1 itr_rng⟩
    · cases hv
  · cases hv⟩
theorem enumD_get : ∀ (xs : List D) (k i : Nat), (enumD k xs)[i]? = xs[i]?.map fun d => .tup [.int ((k + i : Nat) : Int), d]
  | [], _, _ => by simp [enumD]
  | x :: xs, k, 0 => by simp [enumD]
  | x :: xs, k, i + 1 => by
    simp only [enumD, List.getElem?_cons_succ]
    rw [enumD_get xs (k + 1) i]
    congr 1
    funext d
    congr 4
    omega
theorem enumD_len : ∀ (xs : List D) (k : Nat), (enumD k xs).length = xs.length
  | [], _ => rfl
  | x :: xs, k => by simp only [enumD, List.length_cons, enumD_len xs (k + 1)]
def enmI (f : SA) : SJ := fun σ st => bnd (f σ st) fun ds s1 => match ds with
  | [.loc n] => (getL s1 n).map fun _ => (.enm n, s1)
  | _ => none
theorem si_enum {e : Expr} {f : SA} {p pos tpos : Pos} {elts : List Expr} {kk : Nat} (hg : Gl X "enumerate") (hm : X.mg "enumerate" = none) (ha : PA X [e] (rdA X.K X.w f)) (hs : starEach [e] X.env = [(false, eval e X.env)] := by rfl) :
    PI X (.Tuple elts kk tpos) (.Call (.Name "enumerate" p) [e] [] pos) (rdI X.K X.w (enmI f)) := ⟨fun pins s τ H R I hw => by
  obtain ⟨μ, st, σ, J, st', gd, er, hv, k⟩ := hw
  obtain ⟨ds, s1, h1, hv⟩ := bnd_eq hv
  split at hv
  · rename_i n
    cases e1 : getL s1 n with
    | none => rw [e1] at hv; cases hv
    | some xs =>
      rw [e1] at hv
      cases hv
      refine (pi_enum hg hm ha hs).run pins s τ H R I ⟨μ, st, σ, _, _, gd, er, h1, fun μ1 H1 vs g1 d1 r1 => ?_⟩
      obtain ⟨v, rfl, rv⟩ := reps1 r1
      simp only [Rep] at rv
      obtain ⟨p, rfl, hp⟩ := rv
      obtain ⟨ws, hs, rs⟩ := d1.getL hp e1
      refine ⟨p, ws, rfl, hs, k μ1 H1 _ g1 d1 fun μ2 H2 st2 ys g2 d2 e2 => ?_⟩
      simp only [items] at e2
      cases e3 : getL st2 n with
      | none => rw [e3] at e2; cases e2
      | some zs =>
        rw [e3] at e2
        cases e2
        obtain ⟨us, hs2, rs2⟩ := d2.getL (g2.get hp) e3
        refine ⟨fun i hi => ⟨us, hs2, by rw [← rs2.len, ← enumD_len zs 0]; exact hi⟩, fun i d hd => ?_⟩
        rw [enumD_get] at hd
        cases e4 : zs[i]? with
        | none => rw [e4] at hd; cases hd
        | some z =>
          rw [e4] at hd
          cases hd
          obtain ⟨v, hv1, rv⟩ := rs2.get e4
          refine ⟨⟨us, v, hs2, hv1⟩, fun x H3 ⟨T, y, e5, e6, e7, e8⟩ => ?_⟩
          subst e5 e7
          have e9 := e8 us hs2
          rw [hv1] at e9
          cases e9
          have gt : Gr H2 μ2 (upd H2 T (.tup [.int (i : Nat), v])) μ2 := gr_tup e6
          refine ⟨same_upd e6, rep_tup (.inl (.inl upd_same)) (fun z => by cases z) (reps_cons ?_ (reps_cons (rv.m gt) reps_nil))⟩
          simp only [Rep, Nat.zero_add]
  · cases hv⟩

/-! ### for -/
def forV (J : It) (g : Tg) (b : SS) : Nat → Nat → Sl → Sto → Option (R × Sto)
  | 0, _, _, _ => none
  | m + 1, i, σ, st => match items J st with
    | none => none
    | some xs => match xs[i]? with
      | none => some (.nx σ, st)
      | some d => match g d σ with
        | none => none
        | some σ1 => match b σ1 st with
          | some (.nx σ2, s2) => forV J g b m (i + 1) σ2 s2
          | some (.cnt σ2, s2) => forV J g b m (i + 1) σ2 s2
          | some (.brk σ2, s2) => some (.nx σ2, s2)
          | some (.ret d, s2) => some (.ret d, s2)
          | none => none
def forS (i : SJ) (g : Tg) (b : SS) : SS := fun σ st => bnd (i σ st) fun J s1 => match items J s1 with
  | none => none
  | some xs => forV J g b (xs.length + 1) 0 σ s1
theorem ss_for {tg iter : Expr} {body : List Stmt} {i : SJ} {gg : TG} {g : Tg} {b : SS} {pos : Pos} (hp : PassesOwn (model X.prog X.w) X.A X.env X.xe) (hc : X.calm = true) (hi : PI X tg iter (rdI K ww i)) (hg : PG X tg gg) (ok : OkG K gg g) (hb : PSs X body (rdS K ww b))
    (hs : ∀ x, foldedSetIterable iter X.env x = pure x := by intro _; rfl) : PS X (.For tg iter body [] pos) (rdS K ww (forS i g b)) :=
  (ps_for hp hc hi hg hb hs).weak fun Dn τ H ⟨μ, st, σ, r, st', gd, er, hv, k⟩ => by
    obtain ⟨J, s1, h1, hv⟩ := bnd_eq hv
    cases ei : items J s1 with
    | none => simp only [ei] at hv; cases hv
    | some xs =>
      simp only [ei] at hv
      refine ⟨μ, st, σ, J, s1, gd, er, h1, fun μ0 H0 J' g0 d0 iR => ?_⟩
      refine ⟨fun i m τ1 H1 => ∃ μ1 s1 σ1, Gr H0 μ0 H1 μ1 ∧ Gd K ww H1 μ1 s1 ∧ EnvR K H1 μ1 σ1 τ1 ∧ forV J g b m i σ1 s1 = some (r, st') ∧ Fin K ww H1 μ1 st' Dn r, ⟨_, μ0, s1, σ, Gr.refl _ _, d0, er.m g0, hv, k.m g0⟩, ?_⟩
      rintro i m τ1 H1 ⟨μ1, s2, σ1, g1, d1, e1, hv1, k1⟩
      cases m with
      | zero => cases hv1
      | succ m =>
        unfold forV at hv1
        cases e2 : items J s2 with
        | none => simp only [e2] at hv1; cases hv1
        | some ys =>
          simp only [e2] at hv1
          obtain ⟨q1, q2⟩ := iR μ1 H1 s2 ys g1 d1 e2
          cases e3 : ys[i]? with
          | none =>
            simp only [e3] at hv1
            cases hv1
            exact .inl ⟨q1 i (by simpa using e3), k1 μ1 H1 (Gr.refl _ _) d1 τ1 e1⟩
          | some d =>
            simp only [e3] at hv1
            obtain ⟨q3, q4⟩ := q2 i d e3
            refine .inr ⟨q3, fun τ3 H3 => ∃ μ3 s3 σ3, Gr H0 μ0 H3 μ3 ∧ Gd K ww H3 μ3 s3 ∧ EnvR K H3 μ3 σ3 τ3 ∧ forV J g b m (i + 1) σ3 s3 = some (r, st') ∧ Fin K ww H3 μ3 st' Dn r, fun τ3 H3 q => ⟨m, Nat.lt_succ_self m, q⟩, fun x H2 y => ?_⟩
            obtain ⟨sm, rx⟩ := q4 x H2 y
            have gs : Gr H1 μ1 H2 μ1 := ⟨Keeps.same sm, [], by simp⟩
            have d2 := d1.same sm
            cases e4 : g d σ1 with
            | none => simp only [e4] at hv1; cases hv1
            | some σ2 =>
              simp only [e4] at hv1
              refine ok H2 μ1 σ1 τ1 d x σ2 _ (e1.m gs) rx e4 fun τ2 e5 => ?_
              cases eb : b σ2 s2 with
              | none => simp only [eb] at hv1; cases hv1
              | some p =>
                obtain ⟨r3, s3⟩ := p
                simp only [eb] at hv1
                refine ⟨μ1, s2, σ2, r3, s3, d2, e5, eb, fun μ4 H4 g4 d4 => ?_⟩
                have g5 : Gr H1 μ1 H4 μ4 := gs.trans g4
                cases r3 with
                | nx σ3 => exact fun τ4 e4 => ⟨μ4, s3, σ3, g1.trans g5, d4, e4, hv1, k1.m g5⟩
                | cnt σ3 => exact fun τ4 e4 => ⟨μ4, s3, σ3, g1.trans g5, d4, e4, hv1, k1.m g5⟩
                | brk σ3 =>
                  cases hv1
                  exact fun τ4 e4 => k1 μ4 H4 g5 d4 τ4 e4
                | ret d =>
                  cases hv1
                  exact fun v rv => k1 μ4 H4 g5 d4 v rv
end
end Iv

namespace Iv
open PySem L2 PySem.Spec
/-! ### a comprehension's own slots -/
def wipeD (σ : Sl) : List Nat → Sl
  | [] => σ
  | v :: vs => (wipeD σ vs).set v none
theorem wipeD_len (σ : Sl) : ∀ vs : List Nat, (wipeD σ vs).length = σ.length
  | [] => rfl
  | v :: vs => by unfold wipeD; rw [List.length_set, wipeD_len σ vs]
theorem wipe_get (τ : L2.St) : ∀ (vs : List Nat) (j : Nat), (wipe τ vs)[j]? = if j ∈ vs then (if j < τ.length then some none else none) else τ[j]?
  | [], j => by simp [wipe]
  | v :: vs, j => by
    unfold wipe
    by_cases hj : v = j
    · subst hj
      rw [List.getElem?_set]
      simp [wipe_length]
    · rw [List.getElem?_set_ne hj, wipe_get τ vs j]
      have e : (j ∈ v :: vs) = (j ∈ vs) := by simp [Ne.symm hj]
      simp only [e]
theorem wipe_set {τ : L2.St} {vs : List Nat} {i : Nat} {y : Option V} (h : i ∈ vs) : wipe (τ.set i y) vs = wipe τ vs := by
  apply List.ext_getElem?
  intro j
  rw [wipe_get, wipe_get, List.length_set]
  by_cases hj : j ∈ vs
  · simp [hj]
  · rw [if_neg hj, if_neg hj, List.getElem?_set_ne (by rintro rfl; exact hj h)]
theorem wipe_wipe {τ : L2.St} {vs : List Nat} : wipe (wipe τ vs) vs = wipe τ vs := by
  apply List.ext_getElem?
  intro j
  rw [wipe_get, wipe_get, wipe_length]
  by_cases hj : j ∈ vs
  · simp [hj]
  · rw [if_neg hj, if_neg hj]
section
variable {X : Cx} {K : PySem.W.Frag} {ww : World}
theorem envr_wipe {H : Hp} {μ : List Addr} {σ : Sl} {τ : L2.St} (er : EnvR K H μ σ τ) : ∀ vs : List Nat, EnvR K H μ (wipeD σ vs) (wipe τ vs)
  | [] => er
  | v :: vs => by
    have h := envr_wipe er vs
    unfold wipeD wipe
    refine ⟨by rw [List.length_set, List.length_set]; exact h.1, fun j d e => ?_⟩
    by_cases hj : v = j
    · subst hj
      by_cases hl : v < (wipeD σ vs).length
      · rw [List.getElem?_set_self hl] at e; cases e
      · rw [List.getElem?_eq_none (by rw [List.length_set]; omega)] at e; cases e
    · rw [List.getElem?_set_ne hj] at e ⊢
      exact h.2 j d e
/-- a target that stores into the block's own slots alone -/
def OwnG (vs : List Nat) (gg : TG) : Prop := ∀ x τ H (Q : L2.St → Hp → Prop), gg x τ H Q → gg x τ H fun τ2 H2 => wipe τ2 vs = wipe τ vs ∧ Q τ2 H2
def OwnGs (vs : List Nat) (gg : TGs) : Prop := ∀ xs τ H (Q : L2.St → Hp → Prop), gg xs τ H Q → gg xs τ H fun τ2 H2 => wipe τ2 vs = wipe τ vs ∧ Q τ2 H2
theorem own_name {vs : List Nat} {i : Nat} (h : i ∈ vs) : OwnG vs (gName i) := fun x τ H Q q => ⟨wipe_set h, q⟩
theorem own_nil {vs : List Nat} : OwnGs vs gNil := fun xs τ H Q q => ⟨q.1, rfl, q.2⟩
theorem own_cons {vs : List Nat} {i : Nat} {u : TGs} (h : i ∈ vs) (hu : OwnGs vs u) : OwnGs vs (gCons (gName i) u) := fun xs τ H Q ⟨v, r, e, q⟩ => ⟨v, r, e, by
  have q' := hu r _ _ _ q
  rw [wipe_set h] at q'
  exact q'⟩
theorem own_tup {vs : List Nat} {K : PySem.W.Frag} {n : Nat} {u : TGs} (hu : OwnGs vs u) : OwnG vs (gTup K n u) := fun x τ H Q ⟨a, xs, e, s, l, q⟩ => ⟨a, xs, e, s, l, hu xs _ _ _ q⟩
/-! ### comprehensions -/
def compV (J : It) (g : Tg) (c : ST) (e : SE) (n : Nat) (σ0 : Sl) : Nat → Nat → Sto → Option Sto
  | 0, _, _ => none
  | m + 1, i, st => match items J st with
    | none => none
    | some xs => match xs[i]? with
      | none => some st
      | some d => match g d σ0 with
        | none => none
        | some σ1 => bnd (c σ1 st) fun b s1 => if b = true then bnd (e σ1 s1) fun y s2 => (match getM s2 n with
            | none => none
            | some acc => if acc.length < LIM then compV J g c e n σ0 m (i + 1) (s2.set n (.lst (acc ++ [y]))) else none) else compV J g c e n σ0 m (i + 1) s1
def compF (vs : List Nat) (i : SJ) (g : Tg) (c : ST) (e : SE) : SE := fun σ st => bnd (i σ st) fun J s1 => match items J s1 with
  | none => none
  | some xs => (compV J g c e s1.length (wipeD σ vs) (xs.length + 1) 0 (s1 ++ [.lst []])).map fun s2 => (.loc s1.length, s2)
def yesT : ST := fun _ st => some (true, st)
theorem ts_nil : PTs X [] (rdT K ww yesT) := pts_nil.weak fun τ H Q ⟨μ, st, σ, b, st', gd, er, hv, k⟩ => by
  cases hv
  exact k μ H (Gr.refl H μ) gd
theorem ts_one {c : Expr} {t : ST} (h : PT X c (rdT K ww t)) : PTs X [c] (rdT K ww t) := pts_one h
theorem items_new {J : It} {st : Sto} {xs : List D} (h : items J st = some xs) (o : OB) : items J (st ++ [o]) = some xs := by
  have q : ∀ (n : Nat) (ys : List D), getL st n = some ys → getL (st ++ [o]) n = some ys := fun n ys h => by
    unfold getL at h ⊢
    cases e : st[n]? with
    | none => rw [e] at h; cases h
    | some p =>
      rw [List.getElem?_append_left (List.getElem?_eq_some_iff.mp e).1, e]
      rw [e] at h
      exact h
  cases J with
  | cns ys => exact h
  | lst n => exact q n xs h
  | enm n =>
    simp only [items] at h ⊢
    cases e : getL st n with
    | none => rw [e] at h; cases h
    | some ys => rw [q n ys e, ← e]; exact h
theorem rd_comp {vs : List Nat} {i : SJ} {gg : TG} {g : Tg} {c : ST} {e : SE} (ok : OkG K gg g) (ow : OwnG vs gg) : ∀ τ H Q, rdE K ww (compF vs i g c e) τ H Q → tLc (rdI K ww i) gg (rdT K ww c) (rdE K ww e) vs τ H Q :=
  fun τ H Q ⟨μ, st, σ, d, st', gd, er, hv, k⟩ => by
    obtain ⟨J, s1, h1, hv⟩ := bnd_eq hv
    cases ei : items J s1 with
    | none => simp only [ei] at hv; cases hv
    | some xs =>
      simp only [ei] at hv
      cases ec : compV J g c e s1.length (wipeD σ vs) (xs.length + 1) 0 (s1 ++ [.lst []]) with
      | none => rw [ec] at hv; cases hv
      | some s9 =>
        rw [ec] at hv
        cases hv
        refine ⟨μ, st, σ, J, s1, gd, er, h1, fun μ0 H0 J' g0 d0 iR Dp hD => ?_⟩
        have gn : Gr H0 μ0 (upd H0 Dp (.lst [])) (μ0 ++ [Dp]) := gr_new hD
        have dn := d0.new hD (reps_nil (K := K) (H := H0) (μ := μ0))
        have hDp : (μ0 ++ [Dp])[s1.length]? = some Dp := by
          rw [← d0.len, List.getElem?_append_right (Nat.le_refl _), Nat.sub_self]
          rfl
        have ew : EnvR K H0 μ0 (wipeD σ vs) (wipe τ vs) := envr_wipe (er.m g0) vs
        refine ⟨fun j m H1 => ∃ μ1 s2, Gr (upd H0 Dp (.lst [])) (μ0 ++ [Dp]) H1 μ1 ∧ Gd K ww H1 μ1 s2 ∧ compV J g c e s1.length (wipeD σ vs) m j s2 = some st', ⟨_, μ0 ++ [Dp], _, Gr.refl _ _, dn, ec⟩, ?_⟩
        rintro j m H1 ⟨μ1, s2, g1, d1, hv1⟩
        cases m with
        | zero => cases hv1
        | succ m =>
          unfold compV at hv1
          cases e2 : items J s2 with
          | none => simp only [e2] at hv1; cases hv1
          | some ys =>
            simp only [e2] at hv1
            have g01 := gn.trans g1
            obtain ⟨q1, q2⟩ := iR μ1 H1 s2 ys g01 d1 e2
            cases e3 : ys[j]? with
            | none =>
              simp only [e3] at hv1
              cases hv1
              exact .inl ⟨q1 j (by simpa using e3), k μ1 H1 _ (g0.trans g01) d1 (rep_loc (g1.get hDp))⟩
            | some y =>
              simp only [e3] at hv1
              obtain ⟨q3, q4⟩ := q2 j y e3
              refine .inr ⟨q3, fun H3 => ∃ μ3 s3, Gr (upd H0 Dp (.lst [])) (μ0 ++ [Dp]) H3 μ3 ∧ Gd K ww H3 μ3 s3 ∧ compV J g c e s1.length (wipeD σ vs) m (j + 1) s3 = some st', fun H3 q => ⟨m, Nat.lt_succ_self m, q⟩, fun x H2 hy => ?_⟩
              obtain ⟨sm, rx⟩ := q4 x H2 hy
              have gs : Gr H1 μ1 H2 μ1 := ⟨Keeps.same sm, [], by simp⟩
              have d2 := d1.same sm
              cases e4 : g y (wipeD σ vs) with
              | none => simp only [e4] at hv1; cases hv1
              | some σ2 =>
                simp only [e4] at hv1
                obtain ⟨b, s3, h3, hv1⟩ := bnd_eq hv1
                have hq : gg x (wipe τ vs) H2 fun τ2 H2 => rdT K ww c τ2 H2 fun b H3 => if b = true then rdE K ww e τ2 H3 fun y H4 => ∃ acc, H4 Dp = some (.lst acc) ∧ acc.length < sizeLine ∧ (fun H3 => ∃ μ3 s3, Gr (upd H0 Dp (.lst [])) (μ0 ++ [Dp]) H3 μ3 ∧ Gd K ww H3 μ3 s3 ∧ compV J g c e s1.length (wipeD σ vs) m (j + 1) s3 = some st') (upd H4 Dp (.lst (acc ++ [y]))) else (fun H3 => ∃ μ3 s3, Gr (upd H0 Dp (.lst [])) (μ0 ++ [Dp]) H3 μ3 ∧ Gd K ww H3 μ3 s3 ∧ compV J g c e s1.length (wipeD σ vs) m (j + 1) s3 = some st') H3 := by
                  refine ok H2 μ1 _ _ y x σ2 _ (ew.m (g01.trans gs)) rx e4 fun τ2 e5 => ?_
                  refine ⟨μ1, s2, σ2, b, s3, d2, e5, h3, fun μ4 H4 g4 d4 => ?_⟩
                  have g5 := (g1.trans gs).trans g4
                  cases b with
                  | false => exact ⟨μ4, s3, g5, d4, hv1⟩
                  | true =>
                    rw [if_pos rfl] at hv1
                    show rdE K ww e τ2 H4 _
                    obtain ⟨z, s4, h4, hv1⟩ := bnd_eq hv1
                    refine ⟨μ4, s3, σ2, z, s4, d4, e5.m g4, h4, fun μ5 H5 w g6 d5 r5 => ?_⟩
                    cases e6 : getM s4 s1.length with
                    | none => simp only [e6] at hv1; cases hv1
                    | some acc =>
                      simp only [e6] at hv1
                      split at hv1
                      · rename_i hl
                        have hp5 := (g5.trans g6).get hDp
                        obtain ⟨us, hH, rs⟩ := d5.getM hp5 e6
                        have gw : Gr H5 μ5 (upd H5 Dp (.lst (us ++ [w]))) μ5 := gr_write hH
                        exact ⟨us, hH, lim_lt (by rw [← rs.len]; exact hl), μ5, _, (g5.trans g6).trans gw, d5.write hp5 (getM_get e6) hH (rs.app (reps_cons r5 reps_nil)), hv1⟩
                      · cases hv1
                have hq2 := ow x _ _ _ hq
                rw [wipe_wipe] at hq2
                exact hq2
theorem se_comp {elt tg iter : Expr} {ifs : List Expr} {scope : Scope} {own : List (Str × Nat)} {pos : Pos} {i : SJ} {gg : TG} {g : Tg} {c : ST} {e : SE} (hc : X.calm = true) (hN : X.N.Nodup) (hi : PI X tg iter (rdI X.K X.w i)) (ok : BlkOk X.N X.env.scope scope own)
    (hg : ∀ (s : Shared) (H : Hp) (C : Addr) (cl : List (Str × Addr)) (fp : List Addr), PG (X.blk s H scope (compEnvC scope cl C X.env) fp) tg gg) (okg : OkG X.K gg g) (ow : OwnG (own.map (·.2)) gg)
    (ht : ∀ (s : Shared) (H : Hp) (C : Addr) (cl : List (Str × Addr)) (fp : List Addr), PTs (X.blk s H scope (compEnvC scope cl C X.env) fp) ifs (rdT X.K X.w c))
    (he : ∀ (s : Shared) (H : Hp) (C : Addr) (cl : List (Str × Addr)) (fp : List Addr), PE (X.blk s H scope (compEnvC scope cl C X.env) fp) elt (rdE X.K X.w e)) (hs : ∀ x, foldedSetIterable iter X.env x = pure x := by intro _; rfl) :
    PE X (.ListComp elt [⟨tg, iter, ifs, 0⟩] scope pos) (rdE X.K X.w (compF (own.map (·.2)) i g c e)) := (pe_lc hc hN hi ok hg ht he hs).weak (rd_comp okg ow)

/-! ### own functions -/
abbrev Fx := List D → Sto → Option (D × Sto)
def callF (φ : Fx) (f : SA) : SE := fun σ st => bnd (f σ st) fun ds s1 => φ ds s1
def spF (K : PySem.W.Frag) (ww : World) (np : Nat) (φ : Fx) : Sp := fun vs H Q E => vs.length = np ∧ ∃ μ st ds d st', Gd K ww H μ st ∧ Reps K H μ ds vs ∧ φ ds st = some (d, st') ∧ ∀ μ' H' v, Gr H μ H' μ' → Gd K ww H' μ' st' → Rep K H' μ' d v → Q v H'
def runF (ns np : Nat) (body : SS) : Fx := fun ds st => if ds.length = np then (match body (ds.map some ++ List.replicate (ns - np) none) st with
  | some (.nx _, s) => some (.non, s)
  | some (.ret d, s) => some (d, s)
  | _ => none) else none
theorem envr_start {H : Hp} {μ : List Addr} {ds : List D} {vs : List V} (r : Reps K H μ ds vs) (k : Nat) : EnvR K H μ (ds.map some ++ List.replicate k none) (vs.map some ++ List.replicate k none) := by
  have hl := r.len
  refine ⟨by simp [hl], fun i d e => ?_⟩
  by_cases hi : i < ds.length
  · rw [List.getElem?_append_left (by simpa using hi), List.getElem?_map] at e
    rw [List.getElem?_append_left (by rw [List.length_map, ← hl]; exact hi), List.getElem?_map]
    cases e1 : ds[i]? with
    | none => rw [e1] at e; cases e
    | some x =>
      rw [e1] at e
      cases e
      obtain ⟨v, h1, h2⟩ := r.get e1
      exact ⟨v, by rw [h1]; rfl, h2⟩
  · rw [List.getElem?_append_right (by simpa using hi)] at e
    have := List.mem_of_getElem? e
    rw [List.mem_replicate] at this
    cases this.2
section
variable {P : Program} {w : World} {mg : Str → Option Value} {base : Heap} {n k : Nat} {f : Addr} {fd : FuncData} {ps : List Str}
theorem se_call {x : Str} {p pos : Pos} {e : Expr} {es : List Expr} {φ : Fx} {np : Nat} {g : SA} (G : FnOk X.prog X.w X.K X.mg X.base CX0 n f fd ps (spF X.K X.w np φ)) (hr : Room n X.A) (hg : Gl X x) (hm : X.mg x = some (.ref f)) (hk : PySem.W.keepIn X.K (.ref f) = true) (hb : Binds X.K fd ps [])
    (ha : PA X (e :: es) (rdA X.K X.w g)) (hnp : ∀ ds st d st', φ ds st = some (d, st') → ds.length = np) (hdb : (x == ("__debug__" : Str)) = false := by decide) (he : starEach (e :: es) X.env = (false, eval e X.env) :: starEach es X.env := by rfl) (hpl : (backTo pos (starEach es X.env)).any (·.1) = false := by rfl) :
    PE X (.Call (.Name x p) (e :: es) [] pos) (rdE X.K X.w (callF φ g)) := (pe_call G hr hg hm hk hb .nil pass0 ha hdb he hpl).weak fun τ H Q ⟨μ, st, σ, d, st', gd, er, hv, kk⟩ => by
  obtain ⟨ds, s1, h1, hv⟩ := bnd_eq hv
  refine ⟨μ, st, σ, ds, s1, gd, er, h1, fun μ1 H1 vs g1 d1 r1 => ?_⟩
  show spF X.K X.w np φ (vs ++ []) H1 Q E0
  rw [List.append_nil]
  exact ⟨by rw [← r1.len]; exact hnp _ _ _ _ hv, μ1, s1, ds, d, st', d1, r1, hv, fun μ2 H2 v g2 d2 r2 => kk μ2 H2 v (g1.trans g2) d2 r2⟩
theorem runF_np {ns np : Nat} {body : SS} : ∀ ds st d st', runF ns np body ds st = some (d, st') → ds.length = np := fun ds st d st' h => by
  unfold runF at h
  split at h
  · assumption
  · cases h
theorem fn_zero {φ : Fx} {np : Nat} (h : ∀ ds st, φ ds st = none) : FnOk P w K mg base CX0 0 f fd ps (spF K w np φ) := by
  have no : ∀ vs H Q E, ¬ spF K w np φ vs H Q E := fun vs H Q E ⟨_, _, st, ds, _, _, _, _, e, _⟩ => by rw [h] at e; cases e
  exact ⟨fun vs H Q E h => absurd h (no vs H Q E), fun A outer s H args us vs Q E _ _ _ _ h => absurd h (no vs H Q E)⟩
theorem fn_ok {x qual : Str} {st : Stmt} {N : List Str} {body : SS} (F : Fun K x qual st f fd) (S : FnScope N ps (defScope st)) (hns : ps.length ≤ N.length)
    (hb : ∀ (cdv : Value) (A : Around) (outer : List Env) (s : Shared) (H : Hp) (E : XK), Room k (A.deeper (PyProof.Rows.envOfC qual (defScope st) s.heap.objs.size f cdv)) →
      PSs (cxOf CX0 P w K mg base N qual (defScope st) f cdv A outer s H E).nox (defBody st) (rdS K w body)) :
    FnOk P w K mg base CX0 (k + 1) f fd ps (spF K w ps.length (runF N.length ps.length body)) := by
  refine F.ok S (fun vs H Q E h => h.1) (fun cdv A outer s H vs Q E hr h => ⟨_, hb cdv A outer s H E hr, ?_⟩)
  obtain ⟨hlen, μ, st, ds, d, st', gd, r, hv, q⟩ := h
  unfold runF at hv
  split at hv
  · rename_i hl
    unfold L2.start
    rw [hlen]
    have er := envr_start r (N.length - ps.length)
    cases e : body (ds.map some ++ List.replicate (N.length - ps.length) none) st with
    | none => rw [e] at hv; cases hv
    | some p =>
      obtain ⟨r1, s1⟩ := p
      rw [e] at hv
      refine ⟨μ, st, _, r1, s1, gd, er, e, fun μ1 H1 g1 d1 => ?_⟩
      cases r1 with
      | nx σ1 =>
        cases hv
        exact fun τ1 _ => q μ1 H1 .non g1 d1 (by simp only [Rep])
      | ret x =>
        cases hv
        exact fun v rv => q μ1 H1 v g1 d1 rv
      | brk σ1 => cases hv
      | cnt σ1 => cases hv
  · cases hv
end
/-! ### the law's own end -/
def spLaw (K : PySem.W.Frag) : Sp := fun vs H Q _ => ∃ (a : Addr) (ns : List Int), vs = [.ref a] ∧ (∀ H', Keeps H H' → SqL K H' a (ns.map V.int)) ∧ ns.length ≤ 63 ∧ ∀ H', Q (.bl true) H'
theorem reps_ints {H : Hp} {μ : List Addr} : ∀ ns : List Int, Reps K H μ (ns.map D.int) (ns.map V.int)
  | [] => reps_nil
  | n :: ns => reps_cons (by simp only [Rep]) (reps_ints ns)
theorem law_ok {P : Program} {w : World} {mg : Str → Option Value} {base : Heap} {n : Nat} {f : Addr} {fd : FuncData} {φ : Fx} (G : FnOk P w K mg base CX0 n f fd ["script"] (spF K w 1 φ))
    (h : ∀ ns : List Int, ns.length ≤ 63 → ∃ st', φ [.loc 0] [.frz (ns.map .int)] = some (.bl true, st')) : FnOk P w K mg base CX0 n f fd ["script"] (spLaw K) := by
  refine G.imp (fun vs H Q E q => ?_)
  obtain ⟨a, ns, rfl, hS, hl, q⟩ := q
  obtain ⟨st', e⟩ := h ns hl
  refine ⟨rfl, [a], [.frz (ns.map .int)], [.loc 0], _, st', ⟨rfl, fun n m p xs ys h1 h2 h3 h4 k1 k2 => ?_, fun n p o h1 h2 => ?_⟩, reps_cons (rep_loc rfl) reps_nil, e, fun μ' H' v g d r => ?_⟩
  · cases n with
    | zero => cases h3; cases k1
    | succ n => simp at h3
  · cases n with
    | zero =>
      cases h1
      cases h2
      exact ⟨_, hS, reps_ints ns⟩
    | succ n => simp at h1
  · simp only [Rep] at r
    subst r
    exact q H'
theorem only_sql {H : Hp} {a : Addr} {xs : List V} (h : Only H) (s : SqL K H a xs) : ∀ H', Keeps H H' → SqL K H' a xs := fun H' k => by
  rcases s with (s | ⟨o, s⟩) | s
  · rcases h a with z | ⟨o, ys, z⟩
    · rw [s] at z; cases z
    · rw [s] at z; cases z
  · exact .inl (.inr ⟨o, k.2 _ _ _ s⟩)
  · exact .inr s
end
end Iv

namespace Iv
open PySem L2
/-! ### the operations -/
def addO : Op2
  | .int i, .int j, st => some (.int (i + j), st)
  | .str a, .str b, st => if a.length + b.length ≤ LIM then some (.str (a ++ b), st) else none
  | .loc n, .loc m, st => match getM st n, getM st m with
    | some xs, some ys => if xs.length + ys.length ≤ LIM then some (.loc st.length, st ++ [.lst (xs ++ ys)]) else none
    | _, _ => none
  | .tup xs, .tup ys, st => if xs.length + ys.length ≤ LIM ∧ nst (xs ++ ys) = false then some (.tup (xs ++ ys), st) else none
  | _, _, _ => none
def intO (C : Int → Int → Bool) (g : Int → Int → Int) : Op2
  | .int i, .int j, st => if C i j = true then some (.int (g i j), st) else none
  | _, _, _ => none
def cT (_ _ : Int) : Bool := true
def cMul (i j : Int) : Bool := (decide (-(2 ^ 64) < i) && decide (i < 2 ^ 64)) || (decide (-(2 ^ 64) < j) && decide (j < 2 ^ 64))
def cDiv (_ j : Int) : Bool := decide (0 < j) && decide (j < 1073741824)
def cPos (_ j : Int) : Bool := decide (0 < j)
def cPow (i j : Int) : Bool := decide (0 ≤ j) && decide (j ≤ 1000000) && decide (i.natAbs < 2 ^ 64)
def subO : Op2 := intO cT fun i j => i - j
def mulO : Op2 := intO cMul fun i j => i * j
def fdivO : Op2 := intO cDiv fun i j => i / j
def modO : Op2 := intO cPos fun i j => i % j
def powO : Op2 := intO cPow fun i j => i ^ j.toNat
def relO (p : Int → Int → Bool) : Op2
  | .int i, .int j, st => some (.bl (p i j), st)
  | _, _, _ => none
def ltO : Op2 := relO fun i j => decide (i < j)
def leO : Op2 := relO fun i j => decide (i ≤ j)
def gtO : Op2 := relO fun i j => decide (j < i)
def geO : Op2 := relO fun i j => decide (j ≤ i)
/-! equality at any depth -/
mutual
def py (st : Sto) : Nat → D → Option PyData
  | _, .non => some .none
  | _, .bl b => some (.bool b)
  | _, .int i => some (.int i)
  | _, .str x => some (.str x)
  | n, .tup xs => (pys st n xs).map .tuple
  | 0, .loc _ => none
  | n + 1, .loc k => match getL st k with
    | none => none
    | some xs => (pys st n xs).map .list
  termination_by n d => (n, sizeOf d)
def pys (st : Sto) : Nat → List D → Option (List PyData)
  | _, [] => some []
  | n, d :: ds => match py st n d, pys st n ds with
    | some p, some ps => some (p :: ps)
    | _, _ => none
  termination_by n d => (n, sizeOf d)
end
def scalD : D → Bool
  | .non => true | .bl _ => true | .int _ => true | .str _ => true | _ => false
def eqS : D → D → Option Bool
  | .non, .non => some true
  | .non, .int _ => some false
  | .int _, .non => some false
  | .non, .bl _ => some false
  | .bl _, .non => some false
  | .non, .str _ => some false
  | .str _, .non => some false
  | .int i, .int j => some (decide (i = j))
  | .bl i, .bl j => some (decide (i = j))
  | .str i, .str j => some (decide (i = j))
  | .int _, .str _ => some false
  | .str _, .int _ => some false
  | .bl _, .str _ => some false
  | .str _, .bl _ => some false
  | _, _ => none
def eqO (neg : Bool) : Op2 := fun x y st => match eqS x y with
  | some b => some (.bl (b != neg), st)
  | none => match py st 60 x, py st 60 y with
    | some p, some q => if SeqAt.shaped p = true ∧ SeqAt.shaped q = true then some (.bl (PyData.eqv p q != neg), st) else none
    | _, _ => none
def isNO (neg : Bool) : Op2 := fun x y st => match y with
  | .non => match x with
    | .non => some (.bl (true != neg), st)
    | _ => some (.bl (false != neg), st)
  | _ => none
def eqF : D → D → Bool
  | .non, .non => true
  | .bl a, .bl b => a == b
  | .bl a, .int b => (if a then 1 else 0) == b
  | .int a, .bl b => a == (if b then 1 else 0)
  | .int a, .int b => a == b
  | .str a, .str b => a == b
  | _, _ => false
def inF (x : D) (xs : List D) : Bool := xs.any fun y => eqF y x
def inO (neg : Bool) : Op2 := fun x y st => match y with
  | .str b => match x with
    | .str a => some (.bl ((!(Builtin.Str.occurrences b a 0 b.length 1).isEmpty) != neg), st)
    | _ => none
  | .tup ys => if scalD x = true ∧ ys.all scalD = true then some (.bl (inF x ys != neg), st) else none
  | .loc n => match getL st n with
    | none => none
    | some ys => if scalD x = true ∧ ys.all scalD = true then some (.bl (inF x ys != neg), st) else
      match py st 60 x, py st 60 y with
      | some p, some (.list qs) => if SeqAt.shaped p = true ∧ SeqAt.shaped (.list qs) = true then some (.bl ((qs.any fun z => PyData.eqv z p) != neg), st) else none
      | _, _ => none
  | _ => none
def ixO : Op2
  | .loc n, .int i, st => match getL st n with
    | none => none
    | some xs => (atI xs i).map fun d => (d, st)
  | .tup xs, .int i, st => (atI xs i).map fun d => (d, st)
  | .str x, .int i, st => if x.length ≤ LIM then (atI x.cps.toList i).map fun c => (.str ⟨#[c]⟩, st) else none
  | _, _, _ => none
def negO : Op1
  | .int i, st => some (.int (-i), st)
  | _, _ => none
def lenO : OpN
  | [.str x], st => if x.length ≤ LIM then some (.int x.length, st) else none
  | [.tup xs], st => some (.int xs.length, st)
  | [.loc n], st => (getL st n).map fun xs => (.int xs.length, st)
  | _, _ => none
def intOf : OpN
  | [.int i], st => some (.int i, st)
  | [.bl b], st => some (.int (if b then 1 else 0), st)
  | [.str a], st => match PySem.intText? a with
    | some n => if a.length ≤ 640 then some (.int n, st) else none
    | none => none
  | _, _ => none
def absO : OpN
  | [.int i], st => some (.int (if i < 0 then -i else i), st)
  | _, _ => none
def strOf : OpN
  | [.int i], st => if i.natAbs.log2 < 1920 then some (.str (toString i), st) else none
  | [.str x], st => some (.str x, st)
  | _, _ => none
def max2O : OpN
  | [.int i, .int j], st => some (.int (if j > i then j else i), st)
  | _, _ => none
def min2O : OpN
  | [.int i, .int j], st => some (.int (if j < i then j else i), st)
  | _, _ => none
def tupleO : OpN
  | [.loc n], st => (getL st n).map fun xs => (.tup xs, st)
  | [.tup xs], st => some (.tup xs, st)
  | _, _ => none
def listO : OpN
  | [.loc n], st => (getL st n).map fun xs => (.loc st.length, st ++ [.lst xs])
  | [.tup xs], st => some (.loc st.length, st ++ [.lst xs])
  | _, _ => none
def blsD : List D → Option (List Bool)
  | [] => some []
  | .bl b :: ds => (blsD ds).map fun bs => b :: bs
  | _ :: _ => none
def anyO (all : Bool) : OpN
  | [.loc n], st => match getL st n with
    | none => none
    | some xs => (blsD xs).map fun bs => (.bl (if all then bs.all id else bs.any id), st)
  | _, _ => none
def isi (T : String) : D → Bool
  | .non => false
  | .bl _ => T == "bool" || T == "int"
  | .int _ => T == "int"
  | .str _ => T == "str"
  | .tup _ => T == "tuple"
  | .loc _ => T == "list"
def isiO (T : String) : Op1 := fun x st => match x with
  | .loc n => (getL st n).map fun _ => (.bl (isi T x), st)
  | _ => some (.bl (isi T x), st)
def appendO : OpM := fun x ys st => match x, ys with
  | .loc n, [y] => match getM st n with
    | none => none
    | some xs => if xs.length < LIM then some (.non, st.set n (.lst (xs ++ [y]))) else none
  | _, _ => none
def extendO : OpM := fun x ys st => match x, ys with
  | .loc n, [.loc m] => if n = m then none else match getM st n, getM st m with
    | some xs, some zs => if xs.length + zs.length ≤ LIM then some (.non, st.set n (.lst (xs ++ zs))) else none
    | _, _ => none
  | _, _ => none
def strsD : List D → Option (List Str)
  | [] => some []
  | .str b :: ds => (strsD ds).map fun bs => b :: bs
  | _ :: _ => none
def joinO : OpM := fun x ys st => match x, ys with
  | .str a, [.loc n] => match getL st n with
    | none => none
    | some xs => match strsD xs with
      | none => none
      | some zs => if (zs.map (·.length)).sum + zs.length * a.length ≤ LIM then some (.str (Txt.join a zs), st) else none
  | _, _ => none
def splitO : OpM := fun x ys st => match x, ys with
  | .str a, [.str b] => if (b.length == 0) = false ∧ a.length + 2 ≤ LIM then some (.loc st.length, st ++ [.lst ((Txt.split a b).map .str)]) else none
  | _, _ => none
def wordsO : OpM := fun x ys st => match x, ys with
  | .str a, [] => if a.length + 2 ≤ LIM then some (.loc st.length, st ++ [.lst ((Txt.words a).map .str)]) else none
  | _, _ => none
def cutD (xs : List D) (lo hi : Option Int) : List D := (xs.drop (HT.sIx xs.length 0 lo)).take (HT.sIx xs.length xs.length hi - HT.sIx xs.length 0 lo)
def cutO : OpS := fun x lo hi st => match x with
  | .loc n => (getL st n).map fun xs => (.loc st.length, st ++ [.lst (cutD xs lo hi)])
  | .tup xs => if nst (cutD xs lo hi) = true then none else some (.tup (cutD xs lo hi), st)
  | .str x => if x.length ≤ LIM then some (.str (cutS x lo hi), st) else none
  | _ => none

/-! ### they are the machine's -/
theorem limc {n : Nat} (h : n ≤ LIM) : n ≤ 16777216 := Nat.le_trans h (by decide)
section
variable {X : Cx}
abbrev RT (K : PySem.W.Frag) (ww : World) (H : Hp) (μ : List Addr) (st : Sto) (d : D) (st' : Sto) (Q : VK) : Prop := ∀ μ' H' v, Gr H μ H' μ' → Gd K ww H' μ' st' → Rep K H' μ' d v → Q v H'
/-- nothing new: the value and the same heap -/
theorem here {K : PySem.W.Frag} {ww : World} {H : Hp} {μ : List Addr} {st : Sto} {d : D} {Q : VK} {v : V} (k : ∀ μ' H' v, Gr H μ H' μ' → Gd K ww H' μ' st → Rep K H' μ' d v → Q v H') (g : Gd K ww H μ st) (r : Rep K H μ d v) : Q v H := k μ H v (Gr.refl H μ) g r
theorem ok_addI {K : PySem.W.Frag} {ww : World} : Ok2 K ww (fun x y H Q => (rI0 fun i j => V.int (i + j)) x y H Q ∨ (fun x y H Q => ∃ i j, x = V.str i ∧ y = .str j ∧ i.length + j.length ≤ sizeLine ∧ Q (.str (i ++ j)) H) x y H Q ∨ rCat x y H Q ∨ rCatA K x y H Q) addO := by
  intro H μ st x y vx vy d st' Q g rx ry hv k
  cases x with
  | int i =>
    cases y with
    | int j =>
      simp only [Rep] at rx ry
      subst rx ry
      cases hv
      exact .inl ⟨i, j, rfl, rfl, here k g (by simp only [Rep])⟩
    | _ => cases hv
  | str a =>
    cases y with
    | str b =>
      simp only [Rep] at rx ry
      subst rx ry
      simp only [addO] at hv
      split at hv
      · rename_i hl
        cases hv
        exact .inr (.inl ⟨a, b, rfl, rfl, lim_ok hl, here k g (by simp only [Rep])⟩)
      · cases hv
    | _ => cases hv
  | loc n =>
    cases y with
    | loc m =>
      simp only [Rep] at rx ry
      obtain ⟨p, rfl, hp⟩ := rx
      obtain ⟨q, rfl, hq⟩ := ry
      simp only [addO] at hv
      split at hv
      · rename_i xs ys e1 e2
        split at hv
        · rename_i hl
          cases hv
          obtain ⟨vs, h1, r1⟩ := g.getM hp e1
          obtain ⟨ws, h2, r2⟩ := g.getM hq e2
          exact .inr (.inr (.inl ⟨p, q, vs, ws, rfl, rfl, h1, h2, lim_ok (by rw [← r1.len, ← r2.len]; exact hl), new_lst g (r1.app r2) k⟩))
        · cases hv
      · cases hv
    | _ => cases hv
  | tup xs =>
    cases y with
    | tup ys =>
      simp only [addO] at hv
      split at hv
      · rename_i hl
        cases hv
        have rx' := rx
        have ry' := ry
        simp only [Rep] at rx ry
        obtain ⟨p, vs, rfl, ⟨h1, _⟩, r1⟩ := rx
        obtain ⟨q, ws, rfl, ⟨h2, _⟩, r2⟩ := ry
        have ev : vs = [] ↔ xs = [] := by rw [← List.length_eq_zero_iff, ← r1.len, List.length_eq_zero_iff]
        have ew : ws = [] ↔ ys = [] := by rw [← List.length_eq_zero_iff, ← r2.len, List.length_eq_zero_iff]
        refine .inr (.inr (.inr ⟨p, q, vs, ws, rfl, rfl, h1, h2, lim_ok (by rw [← r1.len, ← r2.len]; exact hl.1), fun e => ?_, fun _ e => ?_, fun _ _ => new_tupP g hl.2 (r1.app r2) k⟩))
        · rw [ev.mp e] at k
          exact here k g (by simpa using ry')
        · rw [ew.mp e, List.append_nil] at k
          exact here k g rx'
      · cases hv
    | _ => cases hv
  | non => cases hv
  | bl _ => cases hv
theorem op_addA : OpR X (binaryOp .Add) (fun x y H Q => (rI0 fun i j => V.int (i + j)) x y H Q ∨ (fun x y H Q => ∃ i j, x = V.str i ∧ y = .str j ∧ i.length + j.length ≤ sizeLine ∧ Q (.str (i ++ j)) H) x y H Q ∨ rCat x y H Q ∨ rCatA X.K x y H Q) := op_add.or (op_add_str.or (op_cat.or op_catA))
theorem ok_int {K : PySem.W.Frag} {ww : World} {C : Int → Int → Prop} {c : Int → Int → Bool} {g : Int → Int → Int} (hc : ∀ i j, c i j = true → C i j) : Ok2 K ww (rI C fun i j => .int (g i j)) (intO c g) := by
  intro H μ st x y vx vy d st' Q gd rx ry hv k
  cases x with
  | int i =>
    cases y with
    | int j =>
      simp only [Rep] at rx ry
      subst rx ry
      simp only [intO] at hv
      split at hv
      · rename_i h
        cases hv
        exact ⟨i, j, rfl, rfl, hc i j h, here k gd (by simp only [Rep])⟩
      · cases hv
    | _ => cases hv
  | _ => cases hv
theorem ok_int0 {K : PySem.W.Frag} {ww : World} {g : Int → Int → Int} : Ok2 K ww (rI0 fun i j => .int (g i j)) (intO cT g) := by
  intro H μ st x y vx vy d st' Q gd rx ry hv k
  obtain ⟨i, j, h1, h2, _, q⟩ := ok_int (K := K) (C := fun _ _ => True) (c := cT) (g := g) (fun _ _ _ => True.intro) H μ st x y vx vy d st' Q gd rx ry hv k
  exact ⟨i, j, h1, h2, q⟩
theorem ok_rel {K : PySem.W.Frag} {ww : World} {p : Int → Int → Bool} : Ok2 K ww (rI0 fun i j => .bl (p i j)) (relO p) := by
  intro H μ st x y vx vy d st' Q gd rx ry hv k
  cases x with
  | int i =>
    cases y with
    | int j =>
      simp only [Rep] at rx ry
      subst rx ry
      cases hv
      exact ⟨i, j, rfl, rfl, here k gd (by simp only [Rep])⟩
    | _ => cases hv
  | _ => cases hv
section
variable {a b : Expr} {f g : SE} {pos : Pos}
theorem e_add (ha : PE X a (rdE X.K X.w f)) (hb : PE X b (rdE X.K X.w g)) : PE X (.BinOp a .Add b pos) (rdE X.K X.w (binF addO f g)) := se_bin op_addA ok_addI ha hb
theorem e_sub (ha : PE X a (rdE X.K X.w f)) (hb : PE X b (rdE X.K X.w g)) : PE X (.BinOp a .Sub b pos) (rdE X.K X.w (binF subO f g)) := se_bin op_sub ok_int0 ha hb
theorem e_mul (ha : PE X a (rdE X.K X.w f)) (hb : PE X b (rdE X.K X.w g)) : PE X (.BinOp a .Mult b pos) (rdE X.K X.w (binF mulO f g)) := se_bin op_mul (ok_int fun i j h => by
  simp only [cMul, Bool.or_eq_true, Bool.and_eq_true, decide_eq_true_eq] at h
  exact h) ha hb
theorem e_fdiv (ha : PE X a (rdE X.K X.w f)) (hb : PE X b (rdE X.K X.w g)) : PE X (.BinOp a .FloorDiv b pos) (rdE X.K X.w (binF fdivO f g)) := se_bin op_fdiv (ok_int fun i j h => by
  simp only [cDiv, Bool.and_eq_true, decide_eq_true_eq] at h
  exact h) ha hb
theorem e_mod (ha : PE X a (rdE X.K X.w f)) (hb : PE X b (rdE X.K X.w g)) : PE X (.BinOp a .Mod b pos) (rdE X.K X.w (binF modO f g)) := se_bin op_mod (ok_int fun i j h => by
  simp only [cPos, decide_eq_true_eq] at h
  exact h) ha hb
theorem e_pow (ha : PE X a (rdE X.K X.w f)) (hb : PE X b (rdE X.K X.w g)) : PE X (.BinOp a .Pow b pos) (rdE X.K X.w (binF powO f g)) := se_bin op_pow (ok_int fun i j h => by
  simp only [cPow, Bool.and_eq_true, decide_eq_true_eq] at h
  exact ⟨h.1.1, h.1.2, h.2⟩) ha hb
theorem e_neg (ha : PE X a (rdE X.K X.w f)) : PE X (.UnaryOp .USub a pos) (rdE X.K X.w (unF negO f)) := se_un un_neg (by
  intro H μ st x vx d st' Q gd rx hv k
  cases x with
  | int i =>
    simp only [Rep] at rx
    subst rx
    cases hv
    exact ⟨i, rfl, here k gd (by simp only [Rep])⟩
  | _ => cases hv) ha
end
/-! comparisons: the rule, that it fits, that a bool comes back -/
structure Cmp (X : Cx) (op : CmpOp) (o : Op2) : Prop where
  ex : ∃ r, OpR X (compareOp op) r ∧ Ok2 X.K X.w r o
  bl : ∀ x y st d st', o x y st = some (d, st') → ∃ b, d = .bl b
theorem rel_bl {p : Int → Int → Bool} : ∀ x y st d st', relO p x y st = some (d, st') → ∃ b, d = .bl b := fun x y st d st' h => by
  unfold relO at h
  split at h
  · cases h; exact ⟨_, rfl⟩
  · cases h
theorem cm_lt : Cmp X .Lt ltO := ⟨⟨_, op_lt, ok_rel⟩, rel_bl⟩
theorem cm_le : Cmp X .LtE leO := ⟨⟨_, op_le, ok_rel⟩, rel_bl⟩
theorem cm_gt : Cmp X .Gt gtO := ⟨⟨_, op_gt, ok_rel⟩, rel_bl⟩
theorem cm_ge : Cmp X .GtE geO := ⟨⟨_, op_ge, ok_rel⟩, rel_bl⟩
mutual
theorem py_dp {K : PySem.W.Frag} {ww : World} {H : Hp} {μ : List Addr} {st : Sto} (g : Gd K ww H μ st) : ∀ (n : Nat) (d : D) (v : V) (p : PyData), py st n d = some p → Rep K H μ d v → Dp K H v p
  | n, .non, v, p, h, r => by simp only [py] at h; simp only [Rep] at r; cases h; subst r; exact .non
  | n, .bl b, v, p, h, r => by simp only [py] at h; simp only [Rep] at r; cases h; subst r; exact .bl b
  | n, .int b, v, p, h, r => by simp only [py] at h; simp only [Rep] at r; cases h; subst r; exact .int b
  | n, .str b, v, p, h, r => by simp only [py] at h; simp only [Rep] at r; cases h; subst r; exact .str b
  | n, .tup xs, v, p, h, r => by
    simp only [py] at h
    simp only [Rep] at r
    obtain ⟨a, vs, rfl, s, rs⟩ := r
    cases e : pys st n xs with
    | none => rw [e] at h; cases h
    | some ps =>
      rw [e] at h
      cases h
      exact .tup s.1 (pys_dp g n xs vs ps e rs)
  | 0, .loc k, v, p, h, r => by simp only [py] at h; cases h
  | n + 1, .loc k, v, p, h, r => by
    simp only [py] at h
    simp only [Rep] at r
    obtain ⟨a, rfl, ha⟩ := r
    split at h
    · cases h
    · rename_i xs e1
      obtain ⟨vs, s, rs⟩ := g.getL ha e1
      cases e : pys st n xs with
      | none => rw [e] at h; cases h
      | some ps =>
        rw [e] at h
        cases h
        exact .lst s (pys_dp g n xs vs ps e rs)
  termination_by n d => (n, sizeOf d)
theorem pys_dp {K : PySem.W.Frag} {ww : World} {H : Hp} {μ : List Addr} {st : Sto} (g : Gd K ww H μ st) : ∀ (n : Nat) (ds : List D) (vs : List V) (ps : List PyData), pys st n ds = some ps → Reps K H μ ds vs → DpAll K H vs ps
  | n, [], vs, ps, h, r => by simp only [pys] at h; simp only [Reps] at r; cases h; subst r; exact .nil
  | n, d :: ds, vs, ps, h, r => by
    simp only [pys] at h
    simp only [Reps] at r
    obtain ⟨v, ws, rfl, r1, r2⟩ := r
    split at h
    · rename_i p qs e1 e2
      cases h
      exact .cons (py_dp g n d v p e1 r1) (pys_dp g n ds ws qs e2 r2)
    · cases h
  termination_by n d => (n, sizeOf d)
end
theorem eqS_ok {K : PySem.W.Frag} {H : Hp} {μ : List Addr} {x y : D} {vx vy : V} {b : Bool} (rx : Rep K H μ x vx) (ry : Rep K H μ y vy) (h : eqS x y = some b) : scal vx vy = true ∧ decide (vx = vy) = b := by
  cases x <;> cases y <;> first
    | (exfalso; cases h; done)
    | (simp only [Rep] at rx ry; subst rx ry; cases h; exact ⟨rfl, by simp⟩)
theorem cm_eq (hu : X.A.units + 64 < cLine) : Cmp X .Eq (eqO false) := ⟨⟨_, op_eq.or (op_eqD hu), by
  intro H μ st x y vx vy d st' Q g rx ry hv k
  unfold eqO at hv
  split at hv
  · rename_i b e
    cases hv
    obtain ⟨h1, h2⟩ := eqS_ok rx ry e
    refine .inl ⟨h1, ?_⟩
    rw [h2]
    exact here k g (by simp [Rep])
  · split at hv
    · rename_i p q e1 e2
      split at hv
      · rename_i hs
        cases hv
        exact .inr ⟨p, q, py_dp g _ _ _ _ e1 rx, py_dp g _ _ _ _ e2 ry, hs.1, hs.2, here k g (by simp [Rep])⟩
      · cases hv
    · cases hv⟩, fun x y st d st' h => by
  unfold eqO at h
  repeat' split at h
  all_goals first | (cases h; exact ⟨_, rfl⟩) | cases h⟩
theorem cm_ne (hu : X.A.units + 64 < cLine) : Cmp X .NotEq (eqO true) := ⟨⟨_, op_ne.or (op_neD hu), by
  intro H μ st x y vx vy d st' Q g rx ry hv k
  unfold eqO at hv
  split at hv
  · rename_i b e
    cases hv
    obtain ⟨h1, h2⟩ := eqS_ok rx ry e
    refine .inl ⟨h1, ?_⟩
    rw [h2]
    exact here k g (by simp [Rep])
  · split at hv
    · rename_i p q e1 e2
      split at hv
      · rename_i hs
        cases hv
        exact .inr ⟨p, q, py_dp g _ _ _ _ e1 rx, py_dp g _ _ _ _ e2 ry, hs.1, hs.2, here k g (by simp [Rep])⟩
      · cases hv
    · cases hv⟩, fun x y st d st' h => by
  unfold eqO at h
  repeat' split at h
  all_goals first | (cases h; exact ⟨_, rfl⟩) | cases h⟩
def nonD : D → Bool
  | .non => true
  | _ => false
theorem rep_non {K : PySem.W.Frag} {H : Hp} {μ : List Addr} {x : D} {v : V} (r : Rep K H μ x v) : decide (v = .non) = nonD x := by
  cases x with
  | non => simp only [Rep] at r; subst r; rfl
  | bl _ => simp only [Rep] at r; subst r; rfl
  | int _ => simp only [Rep] at r; subst r; rfl
  | str _ => simp only [Rep] at r; subst r; rfl
  | tup _ => simp only [Rep] at r; obtain ⟨_, _, rfl, _⟩ := r; rfl
  | loc _ => simp only [Rep] at r; obtain ⟨_, rfl, _⟩ := r; rfl
theorem isN_eq {x : D} {neg : Bool} {st : Sto} : isNO neg x .non st = some (.bl (nonD x != neg), st) := by cases x <;> rfl
theorem isN_bl {neg : Bool} : ∀ x y st d st', isNO neg x y st = some (d, st') → ∃ b, d = .bl b := fun x y st d st' h => by
  unfold isNO at h
  repeat' split at h
  all_goals first | (cases h; exact ⟨_, rfl⟩) | cases h
theorem cm_isN : Cmp X .Is (isNO false) := ⟨⟨_, op_isN, by
  intro H μ st x y vx vy d st' Q g rx ry hv k
  cases y with
  | non =>
    simp only [Rep] at ry
    rw [isN_eq] at hv
    cases hv
    refine ⟨ry, ?_⟩
    rw [rep_non rx]
    exact here k g (by simp [Rep])
  | _ => cases hv⟩, isN_bl⟩
theorem cm_notN : Cmp X .IsNot (isNO true) := ⟨⟨_, op_notN, by
  intro H μ st x y vx vy d st' Q g rx ry hv k
  cases y with
  | non =>
    simp only [Rep] at ry
    rw [isN_eq] at hv
    cases hv
    refine ⟨ry, ?_⟩
    rw [rep_non rx]
    exact here k g (by simp [Rep])
  | _ => cases hv⟩, isN_bl⟩
theorem flat_of {K : PySem.W.Frag} {H : Hp} {μ : List Addr} {x : D} {v : V} (r : Rep K H μ x v) (h : scalD x = true) : flatV v = true := by
  cases x <;> first | (cases h; done) | (simp only [Rep] at r; subst r; rfl)
theorem flats_of {K : PySem.W.Frag} {H : Hp} {μ : List Addr} : ∀ {xs : List D} {vs : List V}, Reps K H μ xs vs → xs.all scalD = true → vs.all flatV = true
  | [], vs, r, h => by simp only [Reps] at r; subst r; rfl
  | x :: xs, vs, r, h => by
    simp only [Reps] at r
    obtain ⟨v, ws, rfl, r1, r2⟩ := r
    simp only [List.all_cons, Bool.and_eq_true] at h ⊢
    exact ⟨flat_of r1 h.1, flats_of r2 h.2⟩
theorem eqF_of {K : PySem.W.Frag} {H : Hp} {μ : List Addr} {x y : D} {vx vy : V} (rx : Rep K H μ x vx) (ry : Rep K H μ y vy) (hx : scalD x = true) (hy : scalD y = true) : eqV vy vx = eqF y x := by
  cases x <;> cases y <;> first | (cases hx; done) | (cases hy; done) | (simp only [Rep] at rx ry; subst rx ry; rfl)
theorem inF_of {K : PySem.W.Frag} {H : Hp} {μ : List Addr} {x : D} {vx : V} (rx : Rep K H μ x vx) (hx : scalD x = true) : ∀ {xs : List D} {vs : List V}, Reps K H μ xs vs → xs.all scalD = true → inV vx vs = inF x xs
  | [], vs, r, h => by simp only [Reps] at r; subst r; rfl
  | y :: xs, vs, r, h => by
    simp only [Reps] at r
    obtain ⟨v, ws, rfl, r1, r2⟩ := r
    simp only [List.all_cons, Bool.and_eq_true] at h
    have ih := inF_of rx hx r2 h.2
    unfold inV inF at ih ⊢
    rw [List.any_cons, List.any_cons, ih, eqF_of rx r1 hx h.1]
theorem in_bl {neg : Bool} : ∀ x y st d st', inO neg x y st = some (d, st') → ∃ b, d = .bl b := fun x y st d st' h => by
  unfold inO at h
  repeat' split at h
  all_goals first | (cases h; exact ⟨_, rfl⟩) | cases h
theorem ok_in {K : PySem.W.Frag} {ww : World} (neg : Bool) : Ok2 K ww (fun x y H Q => (fun x y H Q => ∃ i j, x = V.str i ∧ y = .str j ∧ Q (.bl ((!(Builtin.Str.occurrences j i 0 j.length 1).isEmpty) != neg)) H) x y H Q ∨ rIn K neg x y H Q ∨ (fun x y H Q => ∃ d ds, Dp K H x d ∧ Dp K H y (.list ds) ∧ SeqAt.shaped d = true ∧ SeqAt.shaped (.list ds) = true ∧ Q (.bl ((ds.any fun z => PyData.eqv z d) != neg)) H) x y H Q) (inO neg) := by
  have nb : ∀ b : Bool, (b != neg) = if neg then !b else b := fun b => by cases b <;> cases neg <;> rfl
  intro H μ st x y vx vy d st' Q g rx ry hv k
  cases y with
  | str b =>
    cases x with
    | str a =>
      cases hv
      simp only [Rep] at rx ry
      subst rx ry
      exact .inl ⟨a, b, rfl, rfl, here k g (by simp only [Rep])⟩
    | _ => cases hv
  | tup ys =>
    simp only [inO] at hv
    split at hv
    · rename_i hs
      cases hv
      simp only [Rep] at ry
      obtain ⟨p, vs, rfl, ⟨s, _⟩, rs⟩ := ry
      refine .inr (.inl ⟨p, vs, rfl, .inr s, flat_of rx hs.1, flats_of rs hs.2, ?_⟩)
      rw [← nb, inF_of rx hs.1 rs hs.2]
      exact here k g (by simp only [Rep])
    · cases hv
  | loc n =>
    simp only [inO] at hv
    split at hv
    · cases hv
    · rename_i ys e1
      split at hv
      · rename_i hs
        cases hv
        simp only [Rep] at ry
        obtain ⟨p, rfl, hp⟩ := ry
        obtain ⟨vs, s, rs⟩ := g.getL hp e1
        refine .inr (.inl ⟨p, vs, rfl, .inl s, flat_of rx hs.1, flats_of rs hs.2, ?_⟩)
        rw [← nb, inF_of rx hs.1 rs hs.2]
        exact here k g (by simp only [Rep])
      · split at hv
        · rename_i p qs e2 e3
          split at hv
          · rename_i hs
            cases hv
            exact .inr (.inr ⟨p, qs, py_dp g _ _ _ _ e2 rx, py_dp g _ _ _ _ e3 ry, hs.1, hs.2, here k g (by simp only [Rep])⟩)
          · cases hv
        · cases hv
  | _ => cases hv
theorem cm_in (hu : X.A.units + 65 < cLine) : Cmp X .In (inO false) := ⟨⟨_, OpR.or (r := fun x y H Q => ∃ i j, x = V.str i ∧ y = .str j ∧ Q (.bl ((!(Builtin.Str.occurrences j i 0 j.length 1).isEmpty) != false)) H)
    (fun pins s σ H x y v u Q I rx ry ⟨i, j, e1, e2, q⟩ => op_in_str pins s σ H x y v u Q I rx ry ⟨i, j, e1, e2, by rw [Bool.bne_false] at q; exact q⟩) (op_in_seq.or fun pins s σ H x y v u Q I rx ry ⟨d, ds, h1, h2, h3, h4, q⟩ => op_inD hu pins s σ H x y v u Q I rx ry ⟨d, ds, h1, h2, h3, h4, by rw [Bool.bne_false] at q; exact q⟩), ok_in false⟩, in_bl⟩
theorem cm_notin (hu : X.A.units + 65 < cLine) : Cmp X .NotIn (inO true) := ⟨⟨_, OpR.or (r := fun x y H Q => ∃ i j, x = V.str i ∧ y = .str j ∧ Q (.bl ((!(Builtin.Str.occurrences j i 0 j.length 1).isEmpty) != true)) H)
    (fun pins s σ H x y v u Q I rx ry ⟨i, j, e1, e2, q⟩ => op_notIn_str pins s σ H x y v u Q I rx ry ⟨i, j, e1, e2, by rw [Bool.bne_true] at q; exact q⟩) (op_notIn_seq.or fun pins s σ H x y v u Q I rx ry ⟨d, ds, h1, h2, h3, h4, q⟩ => op_notInD hu pins s σ H x y v u Q I rx ry ⟨d, ds, h1, h2, h3, h4, by rw [Bool.bne_true] at q; exact q⟩), ok_in true⟩, in_bl⟩
section
variable {a b c : Expr} {f g h : SE} {pos : Pos} {op op' : CmpOp} {o o' : Op2}
theorem e_cmp (hc : Cmp X op o) (ha : PE X a (rdE X.K X.w f)) (hb : PE X b (rdE X.K X.w g)) (hm : behindInMarks op b = false := by first | exact nobehind _ (by decide) (by decide) | rfl) : PE X (.Compare a [op] [b] pos) (rdE X.K X.w (binF o f g)) :=
  let ⟨_, h1, h2⟩ := hc.ex
  se_cmp h1 h2 ha hb hm
theorem t_cmp (hc : Cmp X op o) (ha : PE X a (rdE X.K X.w f)) (hb : PE X b (rdE X.K X.w g)) (hm : behindInMarks op b = false := by first | exact nobehind _ (by decide) (by decide) | rfl) : PT X (.Compare a [op] [b] pos) (rdT X.K X.w (cmpT o f g)) :=
  let ⟨_, h1, h2⟩ := hc.ex
  st_cmp h1 h2 hc.bl ha hb hm
/-- a op b op' c, as a value -/
def chnF (o o' : Op2) (f g h : SE) : SE := fun σ st => bnd (f σ st) fun x s1 => bnd (g σ s1) fun y s2 => bnd (o x y s2) fun z s3 => match z with
  | .bl true => bnd (h σ s3) fun w s4 => o' y w s4
  | .bl false => some (.bl false, s3)
  | _ => none
theorem e_chain (hc : Cmp X op o) (hc' : Cmp X op' o') (ha : PE X a (rdE X.K X.w f)) (hb : PE X b (rdE X.K X.w g)) (h3 : PE X c (rdE X.K X.w h)) (hl : lastMarks [op, op'] [b, c] = false := by rfl) : PE X (.Compare a [op, op'] [b, c] pos) (rdE X.K X.w (chnF o o' f g h)) := by
  obtain ⟨r, p1, p2⟩ := hc.ex
  obtain ⟨r', q1, q2⟩ := hc'.ex
  refine (pe_chain p1 q1 ha hb h3 hl).weak fun τ H Q ⟨μ, st, σ, d, st', gd, er, hv, k⟩ => ?_
  obtain ⟨x, s1, e1, hv⟩ := bnd_eq hv
  obtain ⟨y, s2, e2, hv⟩ := bnd_eq hv
  obtain ⟨z, s3, e3, hv⟩ := bnd_eq hv
  refine ⟨μ, st, σ, x, s1, gd, er, e1, fun μ1 H1 vx g1 d1 r1 => ?_⟩
  refine ⟨μ1, s1, σ, y, s2, d1, er.m g1, e2, fun μ2 H2 vy g2 d2 r2 => ?_⟩
  refine p2 H2 μ2 s2 x y vx vy z s3 _ d2 (r1.m g2) r2 e3 fun μ3 H3 vz g3 d3 r3 => ?_
  obtain ⟨bb, rfl⟩ := hc.bl _ _ _ _ _ e3
  simp only [Rep] at r3
  refine ⟨bb, r3, ?_⟩
  cases bb with
  | false =>
    cases hv
    exact k μ3 H3 _ ((g1.trans g2).trans g3) d3 (by simp only [Rep])
  | true =>
    show rdE X.K X.w h τ H3 _
    obtain ⟨w, s4, e4, hv⟩ := bnd_eq hv
    refine ⟨μ3, s3, σ, w, s4, d3, er.m ((g1.trans g2).trans g3), e4, fun μ4 H4 vw g4 d4 r4 => ?_⟩
    exact q2 H4 μ4 s4 y w vy vw d st' Q d4 (r2.m (g3.trans g4)) r4 hv fun μ5 H5 v g5 d5 r5 => k μ5 H5 v ((((g1.trans g2).trans g3).trans g4).trans g5) d5 r5
end
end
end Iv

namespace Iv
open PySem L2
section
variable {X : Cx} {K : PySem.W.Frag} {ww : World}
/-! ### an item -/
theorem ixN_lt {n : Nat} {i : Int} {j : Nat} (h : ixN n i = some j) : j < n := (ixN_seq h).2.1
theorem atI_rep {H : Hp} {μ : List Addr} {xs : List D} {vs : List V} {i : Int} {d : D} (r : Reps K H μ xs vs) (h : atI xs i = some d) : ∃ v, atI vs i = some v ∧ Rep K H μ d v := by
  unfold atI at h ⊢
  rw [← r.len]
  cases e : ixN xs.length i with
  | none => rw [e] at h; cases h
  | some j =>
    rw [e] at h
    obtain ⟨v, h1, h2⟩ := r.get h
    exact ⟨v, h1, h2⟩
theorem ok_ix : Ok2 K ww (rIx K) ixO := by
  intro H μ st x y vx vy d st' Q g rx ry hv k
  cases y with
  | int i =>
    simp only [Rep] at ry
    subst ry
    cases x with
    | loc n =>
      simp only [Rep] at rx
      obtain ⟨p, rfl, hp⟩ := rx
      simp only [ixO] at hv
      split at hv
      · cases hv
      · rename_i xs e
        obtain ⟨vs, s, rs⟩ := g.getL hp e
        cases e1 : atI xs i with
        | none => rw [e1] at hv; cases hv
        | some z =>
          rw [e1] at hv
          cases hv
          obtain ⟨v, h1, h2⟩ := atI_rep rs e1
          exact .inl ⟨p, vs, i, v, rfl, rfl, s, h1, here k g h2⟩
    | tup xs =>
      simp only [Rep] at rx
      obtain ⟨p, vs, rfl, ⟨s, _⟩, rs⟩ := rx
      simp only [ixO] at hv
      cases e1 : atI xs i with
      | none => rw [e1] at hv; cases hv
      | some z =>
        rw [e1] at hv
        cases hv
        obtain ⟨v, h1, h2⟩ := atI_rep rs e1
        exact .inr (.inl ⟨p, vs, i, v, rfl, rfl, s, h1, here k g h2⟩)
    | str z =>
      simp only [Rep] at rx
      subst rx
      simp only [ixO] at hv
      split at hv
      · rename_i hl
        cases e1 : atI z.cps.toList i with
        | none => rw [e1] at hv; cases hv
        | some c =>
          rw [e1] at hv
          cases hv
          exact .inr (.inr ⟨z, i, c, rfl, rfl, lim_ok hl, e1, here k g (by simp only [Rep])⟩)
      · cases hv
    | _ => cases hv
  | _ => cases x <;> cases hv
theorem e_ix {a b : Expr} {f g : SE} {pos : Pos} (ha : PE X a (rdE X.K X.w f)) (hb : PE X b (rdE X.K X.w g)) (hs : PlainIx b := by exact fun _ _ => rfl) : PE X (.Subscript a b pos) (rdE X.K X.w (binF ixO f g)) := se_ix ix_seq ok_ix ha hb hs
/-! ### built-in functions -/
theorem ok_len : OkN K ww (fun xs H Q => ∃ x n, xs = [x] ∧ LenV K x H n ∧ Q (.int n) H) lenO := by
  intro H μ st xs vs d st' Q g r hv k
  unfold lenO at hv
  split at hv
  · rename_i x st1
    split at hv
    · rename_i hl
      cases hv
      obtain ⟨v, rfl, rv⟩ := reps1 r
      simp only [Rep] at rv
      subst rv
      exact ⟨_, _, rfl, ⟨lim_ok hl, rfl⟩, here k g (by simp only [Rep])⟩
    · cases hv
  · rename_i ys
    cases hv
    obtain ⟨v, rfl, rv⟩ := reps1 r
    simp only [Rep] at rv
    obtain ⟨p, ws, rfl, ⟨s, _⟩, rs⟩ := rv
    exact ⟨_, _, rfl, .inr ⟨ws, s, rs.len⟩, here k g (by simp only [Rep])⟩
  · rename_i n
    obtain ⟨v, rfl, rv⟩ := reps1 r
    simp only [Rep] at rv
    obtain ⟨p, rfl, hp⟩ := rv
    cases e : getL st n with
    | none => rw [e] at hv; cases hv
    | some ys =>
      rw [e] at hv
      cases hv
      obtain ⟨ws, s, rs⟩ := g.getL hp e
      exact ⟨_, ys.length, rfl, .inl ⟨ws, s, rs.len⟩, here k g (by simp only [Rep])⟩
  · cases hv
theorem e_len {p pos : Pos} {e : Expr} {f : SA} (hg : Gl X "len") (hm : X.mg "len" = none) (ha : PA X [e] (rdA X.K X.w f)) (he : starEach [e] X.env = (false, eval e X.env) :: starEach [] X.env := by rfl) : PE X (.Call (.Name "len" p) [e] [] pos) (rdE X.K X.w (appF lenO f)) :=
  se_callB call_len ok_len hg hm PySem.boot_len ha (he := he)
theorem ok_intOf : OkN K ww (fun xs H Q => ((∃ i, xs = [.int i] ∧ Q (.int i) H) ∨ ∃ k, xs = [.bl k] ∧ Q (.int (if k then 1 else 0)) H) ∨ ∃ a n, xs = [.str a] ∧ PySem.intText? a = some n ∧ a.length ≤ 640 ∧ Q (.int n) H) intOf := by
  intro H μ st xs vs d st' Q g r hv k
  unfold intOf at hv
  split at hv
  · cases hv
    obtain ⟨v, rfl, rv⟩ := reps1 r
    simp only [Rep] at rv
    subst rv
    exact .inl (.inl ⟨_, rfl, here k g (by simp only [Rep])⟩)
  · cases hv
    obtain ⟨v, rfl, rv⟩ := reps1 r
    simp only [Rep] at rv
    subst rv
    exact .inl (.inr ⟨_, rfl, here k g (by simp only [Rep])⟩)
  · split at hv
    · rename_i n e
      split at hv
      · rename_i hl
        cases hv
        obtain ⟨v, rfl, rv⟩ := reps1 r
        simp only [Rep] at rv
        subst rv
        exact .inr ⟨_, n, rfl, e, hl, here k g (by simp only [Rep])⟩
      · cases hv
    · cases hv
  · cases hv
theorem e_int {p pos : Pos} {e : Expr} {f : SA} (hg : Gl X "int") (hm : X.mg "int" = none) (ha : PA X [e] (rdA X.K X.w f)) (he : starEach [e] X.env = (false, eval e X.env) :: starEach [] X.env := by rfl) : PE X (.Call (.Name "int" p) [e] [] pos) (rdE X.K X.w (appF intOf f)) :=
  se_callTy (call_int1.or call_int_str) ok_intOf hg hm (by decide +kernel) ha (he := he)
theorem ok_abs : OkN K ww (fun xs H Q => ∃ i, xs = [.int i] ∧ Q (.int (if i < 0 then -i else i)) H) absO := by
  intro H μ st xs vs d st' Q g r hv k
  unfold absO at hv
  split at hv
  · cases hv
    obtain ⟨v, rfl, rv⟩ := reps1 r
    simp only [Rep] at rv
    subst rv
    exact ⟨_, rfl, here k g (by simp only [Rep])⟩
  · cases hv
theorem e_abs {p pos : Pos} {e : Expr} {f : SA} (hg : Gl X "abs") (hm : X.mg "abs" = none) (ha : PA X [e] (rdA X.K X.w f)) (he : starEach [e] X.env = (false, eval e X.env) :: starEach [] X.env := by rfl) : PE X (.Call (.Name "abs" p) [e] [] pos) (rdE X.K X.w (appF absO f)) :=
  se_callB call_abs ok_abs hg hm (by decide +kernel) ha (he := he)
theorem ok_strOf : OkN K ww (fun xs H Q => (∃ i, xs = [.int i] ∧ i.natAbs.log2 < 1920 ∧ Q (.str (toString i)) H) ∨ ∃ a, xs = [.str a] ∧ Q (.str a) H) strOf := by
  intro H μ st xs vs d st' Q g r hv k
  unfold strOf at hv
  split at hv
  · split at hv
    · rename_i hl
      cases hv
      obtain ⟨v, rfl, rv⟩ := reps1 r
      simp only [Rep] at rv
      subst rv
      exact .inl ⟨_, rfl, hl, here k g (by simp only [Rep])⟩
    · cases hv
  · cases hv
    obtain ⟨v, rfl, rv⟩ := reps1 r
    simp only [Rep] at rv
    subst rv
    exact .inr ⟨_, rfl, here k g (by simp only [Rep])⟩
  · cases hv
theorem e_str {p pos : Pos} {e : Expr} {f : SA} (hg : Gl X "str") (hm : X.mg "str" = none) (ha : PA X [e] (rdA X.K X.w f)) (he : starEach [e] X.env = (false, eval e X.env) :: starEach [] X.env := by rfl) : PE X (.Call (.Name "str" p) [e] [] pos) (rdE X.K X.w (appF strOf f)) :=
  se_callTy (call_str_int.or SkE.call_str_str) ok_strOf hg hm (by decide +kernel) ha (he := he)
/-- tuple(l), the object told -/
def rTupN (K : PySem.W.Frag) : List V → Hp → VK → Prop := fun xs H Q => ∃ p ys, xs = [.ref p] ∧ ((SqL K H p ys ∧ ∀ (l : Addr) (o : Obj), H l = none → o.cls = .type "tuple" → o.dict = none → Q (.ref l) (upd H l (.frz o (.tup ys)))) ∨ (SqT K H p ys ∧ Q (.ref p) H))
theorem cr_tupN : CallR X (.type "tuple") (rTupN X.K) := fun pins s σ H xs us Q I r ⟨p, ys, ex, h⟩ => by
  subst ex
  obtain ⟨u, rfl, rx⟩ := vals1 r
  cases rx
  rcases h with ⟨a1, a2⟩ | ⟨a1, a2⟩
  · obtain ⟨its, rv, pl, hz⟩ := I.list a1
    refine call_tuple_list pl.isList (fun h2 kp => ?_) (by have := rv.length; simp only [List.size_toArray] <;> omega)
    have J := I.kept (t' := s.toks) kp
    exact ⟨.ref h2.objs.size, _, J.laid (t' := s.toks) (h' := h2.push { cls := .type "tuple", data := .seq its.toArray }) (o := .frz _ (.tup ys)) (fun b o e => Heap.get?_push_of_some _ e) (Nat.le_refl _) ⟨Heap.get?_push_size _ rfl, hz, its, rv, ⟨_, Heap.get?_push_size _ rfl, rfl, _, rfl⟩⟩, rfl, a2 _ _ (J.hok.fresh (Nat.le_refl _)) rfl rfl⟩
  · obtain ⟨its, rv, pl, hz⟩ := I.tuple a1
    exact call_tuple_same pl ⟨.ref p, H, I, rfl, a2⟩
theorem ok_tupleO : OkN K ww (rTupN K) tupleO := by
  intro H μ st xs vs d st' Q g r hv k
  unfold tupleO at hv
  split at hv
  · rename_i n
    obtain ⟨v, rfl, rv⟩ := reps1 r
    simp only [Rep] at rv
    obtain ⟨p, rfl, hp⟩ := rv
    cases e : getL st n with
    | none => rw [e] at hv; cases hv
    | some ys =>
      rw [e] at hv
      cases hv
      obtain ⟨ws, s, rs⟩ := g.getL hp e
      exact ⟨p, ws, rfl, .inl ⟨s, new_tup g rs k⟩⟩
  · cases hv
    obtain ⟨v, rfl, rv⟩ := reps1 r
    have rv' := rv
    simp only [Rep] at rv
    obtain ⟨p, ws, rfl, ⟨s, _⟩, rs⟩ := rv
    exact ⟨p, ws, rfl, .inr ⟨s, here k g rv'⟩⟩
  · cases hv
theorem e_tuple {p pos : Pos} {e : Expr} {f : SA} (hg : Gl X "tuple") (hm : X.mg "tuple" = none) (ha : PA X [e] (rdA X.K X.w f)) (he : starEach [e] X.env = (false, eval e X.env) :: starEach [] X.env := by rfl) : PE X (.Call (.Name "tuple" p) [e] [] pos) (rdE X.K X.w (appF tupleO f)) :=
  se_callTy cr_tupN ok_tupleO hg hm (by decide +kernel) ha (he := he)
theorem ok_listO : OkN K ww (fun xs H Q => ∃ p ys, xs = [.ref p] ∧ (SqL K H p ys ∨ SqT K H p ys) ∧ ∀ l, H l = none → Q (.ref l) (upd H l (.lst ys))) listO := by
  intro H μ st xs vs d st' Q g r hv k
  unfold listO at hv
  split at hv
  · rename_i n
    obtain ⟨v, rfl, rv⟩ := reps1 r
    simp only [Rep] at rv
    obtain ⟨p, rfl, hp⟩ := rv
    cases e : getL st n with
    | none => rw [e] at hv; cases hv
    | some ys =>
      rw [e] at hv
      cases hv
      obtain ⟨ws, s, rs⟩ := g.getL hp e
      exact ⟨p, ws, rfl, .inl s, new_lst g rs k⟩
  · cases hv
    obtain ⟨v, rfl, rv⟩ := reps1 r
    simp only [Rep] at rv
    obtain ⟨p, ws, rfl, ⟨s, _⟩, rs⟩ := rv
    exact ⟨p, ws, rfl, .inr s, new_lst g rs k⟩
  · cases hv
theorem e_list {p pos : Pos} {e : Expr} {f : SA} (hg : Gl X "list") (hm : X.mg "list" = none) (ha : PA X [e] (rdA X.K X.w f)) (he : starEach [e] X.env = (false, eval e X.env) :: starEach [] X.env := by rfl) : PE X (.Call (.Name "list" p) [e] [] pos) (rdE X.K X.w (appF listO f)) :=
  se_callTy call_list_of ok_listO hg hm (by decide +kernel) ha (he := he)
theorem bls_of {H : Hp} {μ : List Addr} : ∀ {xs : List D} {vs : List V} {bs : List Bool}, Reps K H μ xs vs → blsD xs = some bs → vs = bs.map V.bl
  | [], vs, bs, r, h => by simp only [Reps] at r; cases h; exact r
  | x :: xs, vs, bs, r, h => by
    simp only [Reps] at r
    obtain ⟨v, ws, rfl, r1, r2⟩ := r
    cases x with
    | bl b =>
      simp only [blsD] at h
      cases e : blsD xs with
      | none => rw [e] at h; cases h
      | some cs =>
        rw [e] at h
        cases h
        simp only [Rep] at r1
        rw [r1, bls_of r2 e]
        rfl
    | _ => cases h
theorem ok_any : OkN K ww (rAny K) (anyO false) := by
  intro H μ st xs vs d st' Q g r hv k
  unfold anyO at hv
  split at hv
  · rename_i n
    obtain ⟨v, rfl, rv⟩ := reps1 r
    simp only [Rep] at rv
    obtain ⟨p, rfl, hp⟩ := rv
    split at hv
    · cases hv
    · rename_i ys e
      cases e2 : blsD ys with
      | none => rw [e2] at hv; cases hv
      | some bs =>
        rw [e2] at hv
        cases hv
        obtain ⟨ws, s, rs⟩ := g.getL hp e
        rw [bls_of rs e2] at s
        exact ⟨p, bs, rfl, s, here k g (by simp [Rep])⟩
  · cases hv
theorem ok_all : OkN K ww (rAll K) (anyO true) := by
  intro H μ st xs vs d st' Q g r hv k
  unfold anyO at hv
  split at hv
  · rename_i n
    obtain ⟨v, rfl, rv⟩ := reps1 r
    simp only [Rep] at rv
    obtain ⟨p, rfl, hp⟩ := rv
    split at hv
    · cases hv
    · rename_i ys e
      cases e2 : blsD ys with
      | none => rw [e2] at hv; cases hv
      | some bs =>
        rw [e2] at hv
        cases hv
        obtain ⟨ws, s, rs⟩ := g.getL hp e
        rw [bls_of rs e2] at s
        exact ⟨p, bs, rfl, s, here k g (by simp [Rep])⟩
  · cases hv
theorem e_any {p pos : Pos} {e : Expr} {f : SA} (hc : X.calm = true) (hg : Gl X "any") (hm : X.mg "any" = none) (ha : PA X [e] (rdA X.K X.w f)) (he : starEach [e] X.env = (false, eval e X.env) :: starEach [] X.env := by rfl) : PE X (.Call (.Name "any" p) [e] [] pos) (rdE X.K X.w (appF (anyO false) f)) :=
  se_callB (cr_any hc) ok_any hg hm (by decide +kernel) ha (he := he)
theorem e_all {p pos : Pos} {e : Expr} {f : SA} (hc : X.calm = true) (hg : Gl X "all") (hm : X.mg "all" = none) (ha : PA X [e] (rdA X.K X.w f)) (he : starEach [e] X.env = (false, eval e X.env) :: starEach [] X.env := by rfl) : PE X (.Call (.Name "all" p) [e] [] pos) (rdE X.K X.w (appF (anyO true) f)) :=
  se_callB (cr_all hc) ok_all hg hm (by decide +kernel) ha (he := he)
theorem ok_max2 : OkN K ww (fun xs H Q => ∃ i j, xs = [.int i, .int j] ∧ Q (.int (if j > i then j else i)) H) max2O := by
  intro H μ st xs vs d st' Q g r hv k
  unfold max2O at hv
  split at hv
  · cases hv
    obtain ⟨v, w, rfl, rv, rw'⟩ := reps2 r
    simp only [Rep] at rv rw'
    subst rv rw'
    exact ⟨_, _, rfl, here k g (by simp only [Rep])⟩
  · cases hv
theorem ok_min2 : OkN K ww (fun xs H Q => ∃ i j, xs = [.int i, .int j] ∧ Q (.int (if j < i then j else i)) H) min2O := by
  intro H μ st xs vs d st' Q g r hv k
  unfold min2O at hv
  split at hv
  · cases hv
    obtain ⟨v, w, rfl, rv, rw'⟩ := reps2 r
    simp only [Rep] at rv rw'
    subst rv rw'
    exact ⟨_, _, rfl, here k g (by simp only [Rep])⟩
  · cases hv
theorem e_max2 {p pos : Pos} {e e2 : Expr} {f : SA} (hc : X.calm = true) (hg : Gl X "max") (hm : X.mg "max" = none) (ha : PA X [e, e2] (rdA X.K X.w f)) (he : starEach [e, e2] X.env = (false, eval e X.env) :: starEach [e2] X.env := by rfl) (hpl : (backTo pos (starEach [e2] X.env)).any (·.1) = false := by rfl) : PE X (.Call (.Name "max" p) [e, e2] [] pos) (rdE X.K X.w (appF max2O f)) :=
  se_callB (call_max2 hc) ok_max2 hg hm (by decide +kernel) ha (he := he) (hpl := hpl)
theorem e_min2 {p pos : Pos} {e e2 : Expr} {f : SA} (hc : X.calm = true) (hg : Gl X "min") (hm : X.mg "min" = none) (ha : PA X [e, e2] (rdA X.K X.w f)) (he : starEach [e, e2] X.env = (false, eval e X.env) :: starEach [e2] X.env := by rfl) (hpl : (backTo pos (starEach [e2] X.env)).any (·.1) = false := by rfl) : PE X (.Call (.Name "min" p) [e, e2] [] pos) (rdE X.K X.w (appF min2O f)) :=
  se_callB (call_min2 hc) ok_min2 hg hm (by decide +kernel) ha (he := he) (hpl := hpl)
/-! ### isinstance -/
theorem tyx_ref {H : Hp} {p : Addr} {vs : List V} (h : SqL K H p vs) : TyX K H (.ref p) (.type "list") := by
  rcases h with (h | ⟨o, h⟩) | ⟨o, its, n, h, c, _⟩
  · exact .base (.lst h)
  · exact .base (.frz h)
  · exact .kList h c
theorem tyx_tup {H : Hp} {p : Addr} {vs : List V} (h : SqT K H p vs) : TyX K H (.ref p) (.type "tuple") := by
  rcases h with (h | ⟨o, h⟩) | ⟨o, its, n, h, c, _⟩
  · exact .base (.tup h)
  · exact .fTuple h
  · exact .kTuple h c
def KitT (T : String) : Prop := kitB "NoneType" T = some false ∧ kitB "bool" T = some (T == "bool" || T == "int") ∧ kitB "int" T = some (T == "int") ∧ kitB "str" T = some (T == "str") ∧ kitB "tuple" T = some (T == "tuple") ∧ kitB "list" T = some (T == "list")
theorem e_isi {p q pos : Pos} {e : Expr} {f : SE} {T : String} {x : Str} (hT : KitT T) (hg : Gl X "isinstance") (hm : X.mg "isinstance" = none) (hgT : Gl X x) (hmT : X.mg x = none) (hvT : bootBuiltins x = some (.type T)) (ha : PE X e (rdE X.K X.w f))
    (hn : x ≠ "__name__" := by decide) (hdb : (x == ("__debug__" : Str)) = false := by decide) (he : starEach [e, .Name x q] X.env = (false, eval e X.env) :: starEach [.Name x q] X.env := by rfl) (hpl : (backTo pos (starEach [.Name x q] X.env)).any (·.1) = false := by rfl) (hs2 : starEach [.Name x q] X.env = (false, eval (.Name x q) X.env) :: starEach [] X.env := by rfl) : PE X (.Call (.Name "isinstance" p) [e, .Name x q] [] pos) (rdE X.K X.w (unF (isiO T) f)) :=
  (pe_callB call_isi hg hm (by decide +kernel) (pa_cons ha (pa_cons (pe_bltn (v := .ty T) hgT hmT hvT rfl hn hdb) pa_nil hs2) he) (by decide) (by decide) he hpl).weak fun τ H Q ⟨μ, st, σ, d, st', gd, er, hv, k⟩ => by
    obtain ⟨x, s1, h1, hv⟩ := bnd_eq hv
    obtain ⟨t1, t2, t3, t4, t5, t6⟩ := hT
    refine ⟨μ, st, σ, x, s1, gd, er, h1, fun μ1 H1 v g1 d1 r1 => ?_⟩
    cases x with
    | non => cases hv; simp only [Rep] at r1; subst r1; exact ⟨_, _, _, _, _, rfl, .ty T, .base .non, kit_ty t1, k μ1 H1 _ g1 d1 (by simp only [Rep, isi])⟩
    | bl b => cases hv; simp only [Rep] at r1; subst r1; exact ⟨_, _, _, _, _, rfl, .ty T, .base (.bl b), kit_ty t2, k μ1 H1 _ g1 d1 (by simp only [Rep, isi])⟩
    | int b => cases hv; simp only [Rep] at r1; subst r1; exact ⟨_, _, _, _, _, rfl, .ty T, .base (.int b), kit_ty t3, k μ1 H1 _ g1 d1 (by simp only [Rep, isi])⟩
    | str b => cases hv; simp only [Rep] at r1; subst r1; exact ⟨_, _, _, _, _, rfl, .ty T, .base (.str b), kit_ty t4, k μ1 H1 _ g1 d1 (by simp only [Rep, isi])⟩
    | tup xs =>
      cases hv
      simp only [Rep] at r1
      obtain ⟨a, vs, rfl, s, _⟩ := r1
      exact ⟨_, _, _, _, _, rfl, .ty T, tyx_tup s.1, kit_ty t5, k μ1 H1 _ g1 d1 (by simp only [Rep, isi])⟩
    | loc n =>
      simp only [isiO] at hv
      cases e9 : getL s1 n with
      | none => rw [e9] at hv; cases hv
      | some xs =>
        rw [e9] at hv
        cases hv
        simp only [Rep] at r1
        obtain ⟨a, rfl, hp⟩ := r1
        obtain ⟨vs, s, _⟩ := d1.getL hp e9
        exact ⟨_, _, _, _, _, rfl, .ty T, tyx_ref s, kit_ty t6, k μ1 H1 _ g1 d1 (by simp only [Rep, isi])⟩
theorem kit_list : KitT "list" := by unfold KitT; decide +kernel
theorem kit_tuple : KitT "tuple" := by unfold KitT; decide +kernel
theorem kit_str : KitT "str" := by unfold KitT; decide +kernel
theorem kit_int : KitT "int" := by unfold KitT; decide +kernel
theorem kit_bool : KitT "bool" := by unfold KitT; decide +kernel
/-! ### methods -/
theorem ok_append : OkM K ww rAppend appendO := by
  intro H μ st x ys vx vs d st' Q g rx r hv k
  cases x with
  | loc n =>
    simp only [appendO] at hv
    split at hv
    · rename_i n' y e9
      cases e9
      split at hv
      · cases hv
      · rename_i xs e
        split at hv
        · rename_i hl
          cases hv
          simp only [Rep] at rx
          obtain ⟨p, rfl, hp⟩ := rx
          obtain ⟨v, rfl, rv⟩ := reps1 r
          obtain ⟨ws, hH, rs⟩ := g.getM hp e
          have gw : Gr H μ (upd H p (.lst (ws ++ [v]))) μ := gr_write hH
          exact ⟨p, ws, v, rfl, rfl, hH, lim_lt (by rw [← rs.len]; exact hl), k μ _ _ gw (g.write hp (getM_get e) hH (rs.app (reps_cons rv reps_nil))) (by simp only [Rep])⟩
        · cases hv
    · cases hv
  | _ => cases hv
theorem e_append {o e : Expr} {apos cpos : Pos} {f : SE} {g : SA} (ho : PE X o (rdE X.K X.w f)) (ha : PA X [e] (rdA X.K X.w g))
    (hbase : attributeBase o "append" X.env (eval o X.env) = eval o X.env := by rfl)
    (hfew : ((backTo cpos (starEach [e] X.env)).all (fun x => !x.1) && (backToKw cpos (keywordEach [] X.env)).all (fun x => x.1.isSome)
      && decide ([e].length + ([] : List Keyword).length + (if ([] : List Keyword).isEmpty then 0 else 1) < 30)) = true := by rfl)
    (hline : (apos.endLine == cpos.line) = true := by rfl) (hs : starEach [e] X.env = (false, eval e X.env) :: starEach [] X.env := by rfl) :
    PE X (.Call (.Attribute o "append" apos) [e] [] cpos) (rdE X.K X.w (bmF "list" appendO f g)) :=
  se_bm PySem.F.plainAttrs_list PySem.F.slot_list_append PySem.F.type_list_append mt_append ok_append ho ha hbase hfew hline hs rfl
end
end Iv

namespace Iv
open PySem L2 PySem.Spec
section
variable {X : Cx} {K : PySem.W.Frag} {ww : World}
/-! ### x op= e -/
def iaddO : Op2
  | .int i, .int j, st => some (.int (i + j), st)
  | .str a, .str b, st => if a.length + b.length ≤ LIM then some (.str (a ++ b), st) else none
  | _, _, _ => none
theorem ok_iadd : Ok2 K ww (fun x y H Q => (rI0 fun i j => V.int (i + j)) x y H Q ∨ (fun x y H Q => ∃ i j, x = V.str i ∧ y = .str j ∧ i.length + j.length ≤ sizeLine ∧ Q (.str (i ++ j)) H) x y H Q) iaddO := by
  intro H μ st x y vx vy d st' Q g rx ry hv k
  cases x with
  | int i =>
    cases y with
    | int j =>
      simp only [Rep] at rx ry
      subst rx ry
      cases hv
      exact .inl ⟨i, j, rfl, rfl, here k g (by simp only [Rep])⟩
    | _ => cases hv
  | str a =>
    cases y with
    | str b =>
      simp only [Rep] at rx ry
      subst rx ry
      simp only [iaddO] at hv
      split at hv
      · rename_i hl
        cases hv
        exact .inr ⟨a, b, rfl, rfl, lim_ok hl, here k g (by simp only [Rep])⟩
      · cases hv
    | _ => cases hv
  | _ => cases hv
theorem s_iadd {i : Nat} {x : Str} {e : Expr} {f : SE} {pos pos' : Pos} (hN : X.N.Nodup) (hi : X.N[i]? = some x) (hx : Loc X.env.scope x) (he : PE X e (rdE X.K X.w f)) (hf : X.fn x = true ∨ X.env.scope.names.lookup x = some .local := by first | exact .inl rfl | exact .inr rfl | assumption) :
    PS X (.AugAssign (.Name x pos') .Add e pos) (rdS X.K X.w (augS i iaddO f)) := ss_aug hN hi hx he (OpR.or iop_add iop_add_str) ok_iadd hf
/-! ### constants of the module -/
def Con (K : PySem.W.Frag) (mg : Str → Option Value) (x : Str) (d : D) : Prop := ∃ u v, mg x = some u ∧ RelV v u ∧ ∀ H μ, Rep K H μ d v
theorem e_con {x : Str} {d : D} {pos : Pos} (C : Con X.K X.mg x d) (hg : Gl X x) (hd : (x == ("__debug__" : Str)) = false := by decide) : PE X (.Name x pos) (rdE X.K X.w (cstF d)) := by
  obtain ⟨u, v, hm, r, q⟩ := C
  exact se_cst (pe_glob hg hm r hd) q
/-! the same, item by item -/
mutual
inductive CV (K : PySem.W.Frag) : Value → D → Prop
  | non : CV K .none .non
  | bl (b : Bool) : CV K (.bool b) (.bl b)
  | int {i : Int} {t : Tok} : CV K (.int i t) (.int i)
  | str {x : Str} {t : Tok} : CV K (.str x t) (.str x)
  | tup {p : Addr}  {its : Array Value} {n : Nat} {sl : Array (Option Value)} {ds : List D} (l : K.lookup p = some ⟨.type "tuple", none, .seq its n, sl⟩) (z : its.size ≤ 1000) (h : CVs K its.toList ds) : CV K (.ref p) (.tup ds)
inductive CVs (K : PySem.W.Frag) : List Value → List D → Prop
  | nil : CVs K [] []
  | cons {u : Value} {us : List Value} {d : D} {ds : List D} (h : CV K u d) (r : CVs K us ds) : CVs K (u :: us) (d :: ds)
end
mutual
theorem cv_ok {K : PySem.W.Frag} : ∀ {u : Value} {d : D}, CV K u d → ∃ v, RelV v u ∧ ∀ H μ, Rep K H μ d v
  | _, _, .non => ⟨.non, rfl, fun _ _ => by simp only [Rep]⟩
  | _, _, .bl b => ⟨.bl b, rfl, fun _ _ => by simp only [Rep]⟩
  | _, _, .int => ⟨.int _, ⟨_, rfl⟩, fun _ _ => by simp only [Rep]⟩
  | _, _, .str => ⟨.str _, ⟨_, rfl⟩, fun _ _ => by simp only [Rep]⟩
  | _, _, .tup l z h => by
    obtain ⟨vs, r, q⟩ := cvs_ok h
    exact ⟨.ref _, rfl, fun H μ => rep_tup (.inr ⟨_, _, _, l, rfl, rfl, Nat.le_trans z (by rw [sizeLine_eq]; decide), r⟩) (fun _ => .inr ⟨_, l, rfl, rfl⟩) (q H μ)⟩
theorem cvs_ok {K : PySem.W.Frag} : ∀ {us : List Value} {ds : List D}, CVs K us ds → ∃ vs, Vals vs us ∧ ∀ H μ, Reps K H μ ds vs
  | _, _, .nil => ⟨[], .nil, fun _ _ => reps_nil⟩
  | _, _, .cons h r => by
    obtain ⟨v, r1, q⟩ := cv_ok h
    obtain ⟨vs, rs, qs⟩ := cvs_ok r
    exact ⟨v :: vs, .cons r1 rs, fun H μ => reps_cons (q H μ) (qs H μ)⟩
end
theorem con_mk {h : Heap} {mg : Str → Option Value} {x : Str} {u : Value} {d : D} (X : K.In h) (G : h.Ns mainGlobals mg) (a : PySem.W.nsIn K mainGlobals x = some (some u)) (c : CV K u d) : Con K mg x d := by
  obtain ⟨v, r, q⟩ := cv_ok c
  exact ⟨u, v, PySem.W.mg_of X G a, r, q⟩
/-! ### defs -/
structure Def (K : PySem.W.Frag) (mg : Str → Option Value) (x : Str) (st : Stmt) (ps : List Str) : Prop where
  ex : ∃ f fd, Fun K x x st f fd ∧ mg x = some (.ref f) ∧ Binds K fd ps []
theorem def_mk {h : Heap} {mg : Str → Option Value} {x : Str} {st : Stmt} {ps : List Str} {f : Addr} {oc kV doc pm cdv ct : Value} {od an : Option Addr} {osl : Array (Option Value)} (X : K.In h) (G : h.Ns mainGlobals mg)
    (a : PySem.W.nsIn K mainGlobals x = some (some (.ref f))) (l : K.lookup f = some ⟨oc, od, .func (PySem.W.fnOf x x (defArgs st) (defBody st) (defScope st) .none kV doc pm an cdv ct), osl⟩) (c : PySem.W.codeIn K cdv x = true) (k : PySem.W.keepIn K (.ref f) = true)
    (b : ∀ (kV doc pm : Value) (an : Option Addr) (cdv ct : Value) (us : List Value), us.length = ps.length → bindArgs (PySem.W.fnOf x x (defArgs st) (defBody st) (defScope st) .none kV doc pm an cdv ct) ⟨us, []⟩ = pure (ps.zip us)) : Def K mg x st ps :=
  ⟨f, _, fun_mk l c k, PySem.W.mg_of X G a, (fun_mk l c k).binds b⟩
structure Cal (P : Program) (w : World) (K : PySem.W.Frag) (mg : Str → Option Value) (base : Heap) (k : Nat) (x : Str) (ps : List Str) (φ : Fx) : Prop where
  ex : ∃ f fd, FnOk P w K mg base CX0 k f fd ps (spF K w ps.length φ) ∧ mg x = some (.ref f) ∧ PySem.W.keepIn K (.ref f) = true ∧ Binds K fd ps []
  np : ∀ ds st d st', φ ds st = some (d, st') → ds.length = ps.length
theorem e_call {n : Nat} {x : Str} {ps : List Str} {φ : Fx} {p pos : Pos} {e : Expr} {es : List Expr} {g : SA} (C : Cal X.prog X.w X.K X.mg X.base n x ps φ) (hr : Room n X.A) (hg : Gl X x)
    (ha : PA X (e :: es) (rdA X.K X.w g)) (hdb : (x == ("__debug__" : Str)) = false := by decide) (he : starEach (e :: es) X.env = (false, eval e X.env) :: starEach es X.env := by rfl) (hpl : (backTo pos (starEach es X.env)).any (·.1) = false := by rfl) :
    PE X (.Call (.Name x p) (e :: es) [] pos) (rdE X.K X.w (callF φ g)) := by
  obtain ⟨f, fd, G, hm, hk, hb⟩ := C.ex
  exact se_call G hr hg hm hk hb ha C.np hdb he hpl
section
variable {P : Program} {w : World} {mg : Str → Option Value} {base : Heap} {k : Nat} {x : Str} {ps N : List Str} {st : Stmt} {body : SS}
theorem cal_ok (Df : Def K mg x st ps) (S : FnScope N ps (defScope st)) (hns : ps.length ≤ N.length)
    (hb : ∀ (f : Addr) (cdv : Value) (A : Around) (outer : List Env) (s : Shared) (H : Hp) (E : XK), Room k (A.deeper (PyProof.Rows.envOfC x (defScope st) s.heap.objs.size f cdv)) →
      PSs (cxOf CX0 P w K mg base N x (defScope st) f cdv A outer s H E).nox (defBody st) (rdS K w body)) :
    Cal P w K mg base (k + 1) x ps (runF N.length ps.length body) := by
  obtain ⟨f, fd, F, hm, hbd⟩ := Df.ex
  exact ⟨⟨f, fd, fn_ok F S hns fun cdv A outer s H E hr => hb f cdv A outer s H E hr, hm, F.kp, hbd⟩, runF_np⟩
theorem cal_zero (Df : Def K mg x st ps) : Cal P w K mg base 0 x ps (fun _ _ => none) := by
  obtain ⟨f, fd, F, hm, hbd⟩ := Df.ex
  exact ⟨⟨f, fd, fn_zero fun _ _ => rfl, hm, F.kp, hbd⟩, fun _ _ _ _ h => by cases h⟩
theorem r64 {n : Nat} {A : Around} (hr : Room n A) : A.units + 64 < cLine := hr.units
theorem r65 {n : Nat} {A : Around} (hr : Room n A) : A.units + 65 < cLine := by have := hr.un; omega
/-- the law's own def -/
structure LawDef (K : PySem.W.Frag) (mg : Str → Option Value) (st : Stmt) : Prop where
  ex : ∃ f fd, Fun K "law" "law" st f fd ∧ mg "law" = some (.ref f) ∧ ∀ (s : Shared) (u : Value), BindsTo s fd ⟨[u], []⟩ [(("script" : Str), u)]
theorem lawdef_mk {h : Heap} {mg : Str → Option Value} {st : Stmt} {f : Addr} {oc kV doc pm cdv ct : Value} {od an : Option Addr} {osl : Array (Option Value)} (X : K.In h) (G : h.Ns mainGlobals mg)
    (a : PySem.W.nsIn K mainGlobals "law" = some (some (.ref f))) (l : K.lookup f = some ⟨oc, od, .func (PySem.W.fnOf "law" "law" (defArgs st) (defBody st) (defScope st) .none kV doc pm an cdv ct), osl⟩) (c : PySem.W.codeIn K cdv "law" = true) (k : PySem.W.keepIn K (.ref f) = true)
    (b : ∀ (kV doc pm : Value) (an : Option Addr) (cdv ct u : Value), bindArgs (PySem.W.fnOf "law" "law" (defArgs st) (defBody st) (defScope st) .none kV doc pm an cdv ct) ⟨[u], []⟩ = pure [(("script" : Str), u)]) : LawDef K mg st :=
  ⟨f, _, fun_mk l c k, PySem.W.mg_of X G a, fun s u => .of_eq (b kV doc pm an cdv ct u)⟩
/-- the law's row, from its def's promise -/
theorem walk {l : PySem.W.OpenLaw} {k : Nat} {q : Program} {loose : List Str} {XP : (Str → Option Value) → Heap → Prop} {YP : World → Heap → Prop} {d : DefRec} {K : Params → PySem.W.Frag} {body : SS} {N : List Str} {st : Stmt} (hn : l.most = some 63) (hdf : d.params.defaults = []) (hdn : d.name = "law") (hr : Room (k + 1) callerA)
    (S : FnScope N ["script"] (defScope st)) (hns : 1 ≤ N.length)
    (hY : ∀ (w : World) (h : Heap), YP w h → (K w.params).In h)
    (law : ∀ ns : List Int, ns.length ≤ 63 → ∃ st', runF N.length 1 body [.loc 0] [.frz (ns.map .int)] = some (.bl true, st'))
    (B : ∀ (w : World) (mg : Str → Option Value) (h : Heap), (K w.params).In h → h.Ns mainGlobals mg → LawDef (K w.params) mg st ∧ ∀ base : Heap, ∀ (f : Addr) (cdv : Value) (A : Around) (outer : List Env) (s : Shared) (H : Hp) (E : XK), Room k (A.deeper (PyProof.Rows.envOfC "law" (defScope st) s.heap.objs.size f cdv)) →
      PSs (cxOf CX0 l.prog w (K w.params) mg base N "law" (defScope st) f cdv A outer s H E).nox (defBody st) (rdS (K w.params) w body)) :
    PySem.W.WalkO q loose XP YP l.row.toRowW d [] (fun f vs => PySem.call f vs) :=
  walk_of (n := 63) (k := k + 1) (x := "script") (CX := fun _ => CX0) (sp := fun w => spLaw (K w.params)) hn (by rw [sizeLine_eq]; decide) hdf hr hY (fun w mg fa h KX G hmg => by
    obtain ⟨⟨f, fd, F, hm, bd⟩, ok⟩ := B w mg h KX G
    rw [hdn, hm] at hmg
    cases hmg
    exact ⟨fd, bd, fun base hb1 hb2 => law_ok (fn_ok F S hns fun cdv A outer s H E hr => ok base _ cdv A outer s H E hr) law⟩) (fun w H a ns hl hO hS => ⟨a, ns, rfl, only_sql hO hS, hl, fun _ => rfl⟩) fun _ _ _ _ _ z => z
end
end
end Iv

namespace Iv
open PySem L2 PySem.Spec
section
variable {X : Cx} {K : PySem.W.Frag} {ww : World}
theorem cut_reps {H : Hp} {μ : List Addr} {xs : List D} {vs : List V} (r : Reps K H μ xs vs) (lo hi : Option Int) : Reps K H μ (cutD xs lo hi) (cutV vs lo hi) := by
  unfold cutD cutV
  rw [← r.len]
  exact (r.drop _).take _
theorem ok_cut : OkS K ww (fun x lo hi H Q => rSlL K x lo hi H Q ∨ rSlA K x lo hi H Q ∨ rSlS x lo hi H Q) cutO := by
  intro H μ st x vx lo hi d st' Q g rx hv k
  cases x with
  | loc n =>
    simp only [Rep] at rx
    obtain ⟨p, rfl, hp⟩ := rx
    simp only [cutO] at hv
    cases e : getL st n with
    | none => rw [e] at hv; cases hv
    | some ys =>
      rw [e] at hv
      cases hv
      obtain ⟨ws, s, rs⟩ := g.getL hp e
      exact .inl ⟨p, ws, rfl, s, new_lst g (cut_reps rs lo hi) k⟩
  | tup xs =>
    simp only [cutO] at hv
    split at hv
    · cases hv
    rename_i hns
    have hns' : nst (cutD xs lo hi) = false := by simpa using hns
    cases hv
    have rx' := rx
    simp only [Rep] at rx
    obtain ⟨p, ws, rfl, ⟨s, _⟩, rs⟩ := rx
    refine .inr (.inl ⟨p, ws, rfl, s, fun ⟨e1, e2⟩ => ?_, fun _ => new_tupP g hns' (cut_reps rs lo hi) k⟩)
    have e : cutD xs lo hi = xs := by
      unfold cutD
      rw [rs.len, e1, e2, List.drop_zero, Nat.sub_zero, ← rs.len, List.take_length]
    rw [e] at k
    exact here k g rx'
  | str x =>
    simp only [Rep] at rx
    subst rx
    simp only [cutO] at hv
    split at hv
    · rename_i hl
      cases hv
      exact .inr (.inr ⟨x, rfl, lim_ok hl, here k g (by simp only [Rep])⟩)
    · cases hv
  | _ => cases hv
theorem e_slice {e : Expr} {lo hi : Option Expr} {p2 pos : Pos} {f : SE} {l h : SO} (he : PE X e (rdE X.K X.w f)) (hl : PO X lo (rdO X.K X.w l)) (hh : PO X hi (rdO X.K X.w h)) :
    PE X (.Subscript e (.Slice lo hi none p2) pos) (rdE X.K X.w (slF cutO f l h)) := se_slice (SlR.or sl_list (SlR.or sl_tupA sl_str)) ok_cut he hl hh
/-- name = [..] -/
theorem rd_asgC {vs : List Nat} {i : SJ} {gg : TG} {g : Tg} {c : ST} {e : SE} {j : Nat} (ok : OkG K gg g) (ow : OwnG vs gg) : ∀ Dn τ H, rdS K ww (asgS (nmG j) (compF vs i g c e)) Dn τ H → tAsg (tLc (rdI K ww i) gg (rdT K ww c) (rdE K ww e) vs) (gName j) Dn τ H := fun Dn τ H h => by
  have h2 := rd_asg (g := nmG j) (gg := gName j) (f := compF vs i g c e) ok_name Dn τ H h
  exact rd_comp ok ow τ H _ h2
theorem s_setLc {i : Nat} {y : Str} {py : Pos} {elt tg iter : Expr} {ifs : List Expr} {scope : Scope} {own : List (Str × Nat)} {pos spos : Pos} {it : SJ} {gg : TG} {g : Tg} {c : ST} {e : SE} (hc : X.calm = true) (hN : X.N.Nodup) (hi : PI X tg iter (rdI X.K X.w it)) (ok : BlkOk X.N X.env.scope scope own)
    (hg : ∀ (s : Shared) (H : Hp) (C : Addr) (cl : List (Str × Addr)) (fp : List Addr), PG (X.blk s H scope (compEnvC scope cl C X.env) fp) tg gg) (okg : OkG X.K gg g) (ow : OwnG (own.map (·.2)) gg)
    (ht : ∀ (s : Shared) (H : Hp) (C : Addr) (cl : List (Str × Addr)) (fp : List Addr), PTs (X.blk s H scope (compEnvC scope cl C X.env) fp) ifs (rdT X.K X.w c))
    (he : ∀ (s : Shared) (H : Hp) (C : Addr) (cl : List (Str × Addr)) (fp : List Addr), PE (X.blk s H scope (compEnvC scope cl C X.env) fp) elt (rdE X.K X.w e))
    (hy : X.N[i]? = some y := by rfl) (hyl : X.env.scope.names.lookup y = some .local := by rfl) (hsw : swapsWith (.ListComp elt [⟨tg, iter, ifs, 0⟩] scope pos) (some (.Name y py)) spos.line X.env = pure true := by exact sw_true rfl rfl rfl (by decide +kernel)) (hs : ∀ x, foldedSetIterable iter X.env x = pure x := by intro _; rfl) :
    PS X (.Assign [.Name y py] (.ListComp elt [⟨tg, iter, ifs, 0⟩] scope pos) spos) (rdS X.K X.w (asgS (nmG i) (compF (own.map (·.2)) it g c e))) := (ps_setLc hc hN hy hyl hsw hi ok hg ht he hs).weak (rd_asgC okg ow)
end
end Iv

namespace Iv
open PySem L2
/-! ### meanings, step by step -/
section
variable {σ σ1 σ2 : Sl} {st st1 st2 : Sto} {d : D} {f g : SE} {o : Op2} {c t : ST} {a b : SS} {i n m : Nat} {r : R}
@[simp] theorem varF_eq : varF i σ st = (match σ[i]? with
  | some (some d) => some (d, st)
  | _ => none) := rfl
@[simp] theorem cstF_eq : cstF d σ st = some (d, st) := rfl
@[simp] theorem binF_eq : binF o f g σ st = bnd (f σ st) fun x st1 => bnd (g σ st1) fun y st2 => o x y st2 := rfl
@[simp] theorem unF_eq {o : Op1} : unF o f σ st = bnd (f σ st) fun x st1 => o x st1 := rfl
@[simp] theorem nilF_eq : nilF σ st = some ([], st) := rfl
@[simp] theorem consF_eq {g : SA} : consF f g σ st = bnd (f σ st) fun x st1 => bnd (g σ st1) fun xs st2 => some (x :: xs, st2) := rfl
@[simp] theorem appF_eq {o : OpN} {g : SA} : appF o g σ st = bnd (g σ st) fun xs st1 => o xs st1 := rfl
@[simp] theorem callF_eq {φ : Fx} {g : SA} : callF φ g σ st = bnd (g σ st) fun xs st1 => φ xs st1 := rfl
@[simp] theorem bmF_eq {T : String} {o : OpM} {g : SA} : bmF T o f g σ st = bnd (f σ st) fun x st1 => if isTy T x st1 = true then bnd (g σ st1) fun xs st2 => o x xs st2 else none := rfl
@[simp] theorem bm0F_eq {T : String} {o : OpM} : bm0F T o f σ st = bnd (f σ st) fun x st1 => if isTy T x st1 = true then o x [] st1 else none := rfl
@[simp] theorem tupF_eq {g : SA} : tupF g σ st = bnd (g σ st) fun xs st1 => if xs.length ≤ LIM then some (.tup xs, st1) else none := rfl
@[simp] theorem lstF_eq {g : SA} : lstF g σ st = bnd (g σ st) fun xs st1 => if xs.length ≤ LIM then some (.loc st1.length, st1 ++ [.lst xs]) else none := rfl
@[simp] theorem truF_eq : truF f σ st = bnd (f σ st) fun x st1 => (truth x st1).map fun b => (b, st1) := rfl
@[simp] theorem cmpT_eq : cmpT o f g σ st = bnd (binF o f g σ st) fun x st1 => (truth x st1).map fun b => (b, st1) := rfl
@[simp] theorem andT_eq : andT c t σ st = bnd (c σ st) fun b st1 => if b = true then t σ st1 else some (false, st1) := rfl
@[simp] theorem orT_eq : orT c t σ st = bnd (c σ st) fun b st1 => if b = true then some (true, st1) else t σ st1 := rfl
@[simp] theorem notT_eq : notT c σ st = bnd (c σ st) fun b st1 => some (!b, st1) := rfl
@[simp] theorem andF_eq : andF f g σ st = bnd (f σ st) fun x st1 => (truth x st1).bind fun b => if b = true then g σ st1 else some (x, st1) := rfl
@[simp] theorem orF_eq : orF f g σ st = bnd (f σ st) fun x st1 => (truth x st1).bind fun b => if b = true then some (x, st1) else g σ st1 := rfl
@[simp] theorem notF_eq : notF f σ st = bnd (f σ st) fun x st1 => (truth x st1).map fun b => (.bl (!b), st1) := rfl
@[simp] theorem ifF_eq : ifF c f g σ st = bnd (c σ st) fun b st1 => if b = true then f σ st1 else g σ st1 := rfl
@[simp] theorem chnF_eq {o o' : Op2} {h : SE} : chnF o o' f g h σ st = bnd (f σ st) fun x s1 => bnd (g σ s1) fun y s2 => bnd (o x y s2) fun z s3 => match z with
  | .bl true => bnd (h σ s3) fun w s4 => o' y w s4
  | .bl false => some (.bl false, s3)
  | _ => none := rfl
@[simp] theorem noneO_eq : noneO σ st = some (none, st) := rfl
@[simp] theorem someO_eq : someO f σ st = bnd (f σ st) fun x st1 => match x with
  | .int i => some (some i, st1)
  | _ => none := rfl
@[simp] theorem slF_eq {o : OpS} {lo hi : SO} : slF o f lo hi σ st = bnd (f σ st) fun x s1 => bnd (lo σ s1) fun l s2 => bnd (hi σ s2) fun h s3 => o x l h s3 := rfl
@[simp] theorem nxS_eq : nxS σ st = some (.nx σ, st) := rfl
@[simp] theorem brkS_eq : brkS σ st = some (.brk σ, st) := rfl
@[simp] theorem cntS_eq : cntS σ st = some (.cnt σ, st) := rfl
@[simp] theorem retNS_eq : retNS σ st = some (.ret .non, st) := rfl
@[simp] theorem exS_eq : exS f σ st = bnd (f σ st) fun _ st1 => some (.nx σ, st1) := rfl
@[simp] theorem retS_eq : retS f σ st = bnd (f σ st) fun d st1 => some (.ret d, st1) := rfl
@[simp] theorem ifS_eq : ifS c a b σ st = bnd (c σ st) fun x st1 => if x = true then a σ st1 else b σ st1 := rfl
@[simp] theorem asgS_eq {g : Tg} : asgS g f σ st = bnd (f σ st) fun d st1 => (g d σ).map fun σ1 => (.nx σ1, st1) := rfl
@[simp] theorem nmG_eq : nmG i d σ = some (σ.set i (some d)) := rfl
@[simp] theorem tupG_eq {is : List Nat} {ds : List D} : tupG is (.tup ds) σ = nmsG is ds σ := rfl
@[simp] theorem nmsG_nil : nmsG [] [] σ = some σ := rfl
@[simp] theorem nmsG_cons {is : List Nat} {ds : List D} : nmsG (i :: is) (d :: ds) σ = nmsG is ds (σ.set i (some d)) := rfl
theorem seqS_eq : seqS a b σ st = (match a σ st with
  | some (.nx σ', st1) => b σ' st1
  | r => r) := rfl
theorem seq_nx (h : a σ st = some (.nx σ1, st1)) : seqS a b σ st = b σ1 st1 := by rw [seqS_eq, h]
theorem seq_ret (h : a σ st = some (.ret d, st1)) : seqS a b σ st = some (.ret d, st1) := by rw [seqS_eq, h]
@[simp] theorem augS_eq : augS i o f σ st = (match σ[i]? with
  | some (some x) => bnd (f σ st) fun y s1 => bnd (o x y s1) fun z s2 => some (.nx (σ.set i (some z)), s2)
  | _ => none) := rfl
@[simp] theorem setS_eq {fo fi : SE} : setS fo fi f σ st = bnd (f σ st) fun d s1 => bnd (fo σ s1) fun o s2 => bnd (fi σ s2) fun i s3 => match o, i with
  | .loc n, .int k => (getM s3 n).bind fun xs => (ixN xs.length k).map fun j => (.nx σ, s3.set n (.lst (xs.set j d)))
  | _, _ => none := rfl
@[simp] theorem anyI_eq : anyI f σ st = bnd (f σ st) fun d s1 => match d with
  | .loc n => (getL s1 n).map fun _ => (.lst n, s1)
  | .tup xs => some (.cns xs, s1)
  | .str x => some (.cns (charsD x), s1)
  | _ => none := rfl
@[simp] theorem rngI1_eq {g : SA} : rngI1 g σ st = bnd (g σ st) fun ds s1 => match ds with
  | [.int j] => if -(2 ^ 62) ≤ j ∧ j < 2 ^ 62 then some (.cns (rngD 0 j.toNat), s1) else none
  | _ => none := rfl
@[simp] theorem rngI2_eq {g : SA} : rngI2 g σ st = bnd (g σ st) fun ds s1 => match ds with
  | [.int i, .int j] => if -(2 ^ 62) ≤ i ∧ i < 2 ^ 62 ∧ -(2 ^ 62) ≤ j ∧ j < 2 ^ 62 then some (.cns (rngD i (j - i).toNat), s1) else none
  | _ => none := rfl
@[simp] theorem enmI_eq {g : SA} : enmI g σ st = bnd (g σ st) fun ds s1 => match ds with
  | [.loc n] => (getL s1 n).map fun _ => (.enm n, s1)
  | _ => none := rfl
theorem forS_eq {i : SJ} {g : Tg} : forS i g b σ st = bnd (i σ st) fun J s1 => match items J s1 with
  | none => none
  | some xs => forV J g b (xs.length + 1) 0 σ s1 := rfl
@[simp] theorem items_cns {xs : List D} : items (.cns xs) st = some xs := rfl
@[simp] theorem items_lst : items (.lst n) st = getL st n := rfl
@[simp] theorem items_enm : items (.enm n) st = (getL st n).map (enumD 0) := rfl
theorem runF_eq {ns np : Nat} {ds : List D} : runF ns np b ds st = if ds.length = np then (match b (ds.map some ++ List.replicate (ns - np) none) st with
  | some (.nx _, s) => some (.non, s)
  | some (.ret d, s) => some (d, s)
  | _ => none) else none := rfl
theorem run_ret {ns np : Nat} {ds : List D} (hl : ds.length = np) (h : b (ds.map some ++ List.replicate (ns - np) none) st = some (.ret d, st1)) : runF ns np b ds st = some (d, st1) := by rw [runF_eq, if_pos hl, h]
theorem run_nx {ns np : Nat} {ds : List D} (hl : ds.length = np) (h : b (ds.map some ++ List.replicate (ns - np) none) st = some (.nx σ1, st1)) : runF ns np b ds st = some (.non, st1) := by rw [runF_eq, if_pos hl, h]
@[simp] theorem addO_int {i j : Int} : addO (.int i) (.int j) st = some (.int (i + j), st) := rfl
@[simp] theorem addO_str {i j : Str} : addO (.str i) (.str j) st = if i.length + j.length ≤ LIM then some (.str (i ++ j), st) else none := rfl
@[simp] theorem addO_tup {i j : List D} : addO (.tup i) (.tup j) st = if i.length + j.length ≤ LIM ∧ nst (i ++ j) = false then some (.tup (i ++ j), st) else none := rfl
@[simp] theorem subO_int {i j : Int} : subO (.int i) (.int j) st = some (.int (i - j), st) := rfl
@[simp] theorem mulO_int {i j : Int} : mulO (.int i) (.int j) st = if cMul i j = true then some (.int (i * j), st) else none := by simp only [mulO, intO]
@[simp] theorem fdivO_int {i j : Int} : fdivO (.int i) (.int j) st = if cDiv i j = true then some (.int (i / j), st) else none := by simp only [fdivO, intO]
@[simp] theorem modO_int {i j : Int} : modO (.int i) (.int j) st = if cPos i j = true then some (.int (i % j), st) else none := by simp only [modO, intO]
@[simp] theorem powO_int {i j : Int} : powO (.int i) (.int j) st = if cPow i j = true then some (.int (i ^ j.toNat), st) else none := by simp only [powO, intO]
@[simp] theorem ltO_int {i j : Int} : ltO (.int i) (.int j) st = some (.bl (decide (i < j)), st) := rfl
@[simp] theorem leO_int {i j : Int} : leO (.int i) (.int j) st = some (.bl (decide (i ≤ j)), st) := rfl
@[simp] theorem gtO_int {i j : Int} : gtO (.int i) (.int j) st = some (.bl (decide (j < i)), st) := rfl
@[simp] theorem geO_int {i j : Int} : geO (.int i) (.int j) st = some (.bl (decide (j ≤ i)), st) := rfl
@[simp] theorem iaddO_int {i j : Int} : iaddO (.int i) (.int j) st = some (.int (i + j), st) := rfl
@[simp] theorem iaddO_str {i j : Str} : iaddO (.str i) (.str j) st = if i.length + j.length ≤ LIM then some (.str (i ++ j), st) else none := rfl
@[simp] theorem negO_int {i : Int} : negO (.int i) st = some (.int (-i), st) := rfl
@[simp] theorem eqO_int {neg : Bool} {i j : Int} : eqO neg (.int i) (.int j) st = some (.bl (decide (i = j) != neg), st) := rfl
@[simp] theorem eqO_str {neg : Bool} {i j : Str} : eqO neg (.str i) (.str j) st = some (.bl (decide (i = j) != neg), st) := rfl
@[simp] theorem eqO_bl {neg : Bool} {i j : Bool} : eqO neg (.bl i) (.bl j) st = some (.bl (decide (i = j) != neg), st) := rfl
@[simp] theorem isNO_non {neg : Bool} {x : D} : isNO neg x .non st = some (.bl (nonD x != neg), st) := isN_eq
@[simp] theorem nonD_non : nonD .non = true := rfl
@[simp] theorem nonD_bl {x : Bool} : nonD (.bl x) = false := rfl
@[simp] theorem nonD_int {x : Int} : nonD (.int x) = false := rfl
@[simp] theorem nonD_str {x : Str} : nonD (.str x) = false := rfl
@[simp] theorem nonD_tup {x : List D} : nonD (.tup x) = false := rfl
@[simp] theorem nonD_loc : nonD (.loc n) = false := rfl
@[simp] theorem truth_bl {x : Bool} : truth (.bl x) st = some x := rfl
@[simp] theorem truth_non : truth .non st = some false := rfl
@[simp] theorem truth_int {x : Int} : truth (.int x) st = some (x != 0) := rfl
@[simp] theorem truth_tup {xs : List D} : truth (.tup xs) st = some (!xs.isEmpty) := rfl
@[simp] theorem truth_loc : truth (.loc n) st = (getL st n).map fun xs => !xs.isEmpty := rfl
@[simp] theorem intOf_int {x : Int} : intOf [.int x] st = some (.int x, st) := rfl
theorem intOf_str {x : Str} {n : Int} (h : PySem.intText? x = some n) (hl : x.length ≤ 640) : intOf [.str x] st = some (.int n, st) := by
  show (match PySem.intText? x with
    | some n => if x.length ≤ 640 then some (D.int n, st) else none
    | none => none) = _
  rw [h]
  exact if_pos hl
@[simp] theorem intOf_bl {x : Bool} : intOf [.bl x] st = some (.int (if x then 1 else 0), st) := rfl
@[simp] theorem absO_int {x : Int} : absO [.int x] st = some (.int (if x < 0 then -x else x), st) := rfl
@[simp] theorem lenO_tup {xs : List D} : lenO [.tup xs] st = some (.int xs.length, st) := rfl
@[simp] theorem lenO_str {x : Str} : lenO [.str x] st = if x.length ≤ LIM then some (.int x.length, st) else none := rfl
@[simp] theorem lenO_loc : lenO [.loc n] st = (getL st n).map fun xs => (.int xs.length, st) := rfl
@[simp] theorem ixO_tup {xs : List D} {i : Int} : ixO (.tup xs) (.int i) st = (atI xs i).map fun d => (d, st) := rfl
@[simp] theorem ixO_loc {i : Int} : ixO (.loc n) (.int i) st = (match getL st n with
  | none => none
  | some xs => (atI xs i).map fun d => (d, st)) := rfl
@[simp] theorem ixO_str {x : Str} {i : Int} : ixO (.str x) (.int i) st = if x.length ≤ LIM then (atI x.cps.toList i).map fun c => (.str ⟨#[c]⟩, st) else none := rfl
@[simp] theorem isiO_non {T : String} : isiO T .non st = some (.bl false, st) := rfl
@[simp] theorem isiO_bl {T : String} {x : Bool} : isiO T (.bl x) st = some (.bl (T == "bool" || T == "int"), st) := rfl
@[simp] theorem isiO_int {T : String} {x : Int} : isiO T (.int x) st = some (.bl (T == "int"), st) := rfl
@[simp] theorem isiO_str {T : String} {x : Str} : isiO T (.str x) st = some (.bl (T == "str"), st) := rfl
@[simp] theorem isiO_tup {T : String} {x : List D} : isiO T (.tup x) st = some (.bl (T == "tuple"), st) := rfl
@[simp] theorem isiO_loc {T : String} : isiO T (.loc n) st = (getL st n).map fun _ => (.bl (T == "list"), st) := rfl
@[simp] theorem isTy_str {x : Str} : isTy "str" (.str x) st = true := rfl
@[simp] theorem isTy_list : isTy "list" (.loc n) st = (getL st n).isSome := rfl
@[simp] theorem appendO_eq {y : D} : appendO (.loc n) [y] st = (match getM st n with
  | none => none
  | some xs => if xs.length < LIM then some (.non, st.set n (.lst (xs ++ [y]))) else none) := rfl
@[simp] theorem tupleO_tup {xs : List D} : tupleO [.tup xs] st = some (.tup xs, st) := rfl
@[simp] theorem tupleO_loc : tupleO [.loc n] st = (getL st n).map fun xs => (.tup xs, st) := rfl
@[simp] theorem listO_tup {xs : List D} : listO [.tup xs] st = some (.loc st.length, st ++ [.lst xs]) := rfl
@[simp] theorem listO_loc : listO [.loc n] st = (getL st n).map fun xs => (.loc st.length, st ++ [.lst xs]) := rfl
@[simp] theorem cutO_tup {xs : List D} {lo hi : Option Int} : cutO (.tup xs) lo hi st = if nst (cutD xs lo hi) = true then none else some (.tup (cutD xs lo hi), st) := rfl
@[simp] theorem cutO_loc {lo hi : Option Int} : cutO (.loc n) lo hi st = (getL st n).map fun xs => (.loc st.length, st ++ [.lst (cutD xs lo hi)]) := rfl
@[simp] theorem cutO_str {x : Str} {lo hi : Option Int} : cutO (.str x) lo hi st = if x.length ≤ LIM then some (.str (cutS x lo hi), st) else none := rfl
end
/-! ### the store -/
section
variable {st st1 st2 : Sto} {n m : Nat} {xs ys : List D}
theorem getL_of (h : st[n]? = some (.lst xs)) : getL st n = some xs := by unfold getL; rw [h]
theorem getL_frz (h : st[n]? = some (.frz xs)) : getL st n = some xs := by unfold getL; rw [h]
theorem getM_of (h : st[n]? = some (.lst xs)) : getM st n = some xs := by unfold getM; rw [h]
theorem getL_eq (h : st2[n]? = st[n]?) : getL st2 n = getL st n := by unfold getL; rw [h]
/-- all but the list at b stands as it stood; there may be more -/
def Up (b : Nat) (st st2 : Sto) : Prop := st.length ≤ st2.length ∧ ∀ n, n ≠ b → n < st.length → st2[n]? = st[n]?
theorem Up.refl {b : Nat} : Up b st st := ⟨Nat.le_refl _, fun _ _ _ => rfl⟩
theorem Up.trans {b : Nat} (h : Up b st st1) (k : Up b st1 st2) : Up b st st2 := ⟨Nat.le_trans h.1 k.1, fun n h1 h2 => (k.2 n h1 (Nat.lt_of_lt_of_le h2 h.1)).trans (h.2 n h1 h2)⟩
theorem Up.app {b : Nat} (o : List OB) : Up b st (st ++ o) := ⟨by simp, fun n _ h => List.getElem?_append_left h⟩
theorem Up.set {b : Nat} (o : OB) : Up b st (st.set b o) := ⟨by simp, fun n h _ => List.getElem?_set_ne (Ne.symm h)⟩
theorem Up.getL {b : Nat} (h : Up b st st2) (hn : n ≠ b) (e : getL st n = some xs) : Iv.getL st2 n = some xs := by
  have hl : n < st.length := by
    unfold Iv.getL at e
    cases q : st[n]? with
    | none => rw [q] at e; cases e
    | some o => exact (List.getElem?_eq_some_iff.mp q).1
  rw [getL_eq (h.2 n hn hl)]
  exact e
theorem Up.at {b : Nat} (h : Up b st st2) (hn : n ≠ b) {o : OB} (e : st[n]? = some o) : st2[n]? = some o := (h.2 n hn (List.getElem?_eq_some_iff.mp e).1).trans e
theorem Up.new {b k : Nat} (h : Up b st st2) (hb : b < st.length) (hk : st.length ≤ k) {o : OB} : Up b st (st2.set k o) := ⟨by rw [List.length_set]; exact h.1, fun n h1 h2 => by rw [List.getElem?_set_ne (by omega)]; exact h.2 n h1 h2⟩
/-- nothing changes; there may be more -/
def Ext (st st2 : Sto) : Prop := st.length ≤ st2.length ∧ ∀ n, n < st.length → st2[n]? = st[n]?
theorem Ext.refl : Ext st st := ⟨Nat.le_refl _, fun _ _ => rfl⟩
theorem Ext.trans (h : Ext st st1) (k : Ext st1 st2) : Ext st st2 := ⟨Nat.le_trans h.1 k.1, fun n h2 => (k.2 n (Nat.lt_of_lt_of_le h2 h.1)).trans (h.2 n h2)⟩
theorem Ext.app (o : List OB) : Ext st (st ++ o) := ⟨by simp, fun n h => List.getElem?_append_left h⟩
theorem Ext.up {b : Nat} (h : Ext st st2) : Up b st st2 := ⟨h.1, fun n _ h2 => h.2 n h2⟩
theorem Ext.at (h : Ext st st2) {o : OB} (e : st[n]? = some o) : st2[n]? = some o := (h.2 n (List.getElem?_eq_some_iff.mp e).1).trans e
theorem Ext.getL (h : Ext st st2) (e : getL st n = some xs) : Iv.getL st2 n = some xs := by
  have hl : n < st.length := by
    unfold Iv.getL at e
    cases q : st[n]? with
    | none => rw [q] at e; cases e
    | some o => exact (List.getElem?_eq_some_iff.mp q).1
  rw [getL_eq (h.2 n hl)]
  exact e
theorem Ext.set {k : Nat} (h : Ext st st2) (hk : st.length ≤ k) {o : OB} : Ext st (st2.set k o) := ⟨by rw [List.length_set]; exact h.1, fun n h2 => by rw [List.getElem?_set_ne (by omega)]; exact h.2 n h2⟩
end
/-! ### loops -/
section
variable {g : Tg} {b : SS} {xs : List D}
/-- over a fixed row: P by the turn; a turn may leave -/
theorem for_cns (P : Nat → Sl → Sto → Prop) (QB : Sl → Sto → Prop) (QR : D → Sto → Prop)
    (h : ∀ (i : Nat) (σ : Sl) (st : Sto) (d : D), xs[i]? = some d → P i σ st → ∃ σ1 r st2, g d σ = some σ1 ∧ b σ1 st = some (r, st2) ∧ match r with
      | .nx σ2 => P (i + 1) σ2 st2
      | .cnt σ2 => P (i + 1) σ2 st2
      | .brk σ2 => QB σ2 st2
      | .ret d => QR d st2) :
    ∀ (m i : Nat) (σ : Sl) (st : Sto), P i σ st → i ≤ xs.length → xs.length - i < m → ∃ r st2, forV (.cns xs) g b m i σ st = some (r, st2) ∧ match r with
      | .nx σ2 => P xs.length σ2 st2 ∨ QB σ2 st2
      | .ret d => QR d st2
      | _ => False
  | 0, i, σ, st, p, hi, hm => by omega
  | m + 1, i, σ, st, p, hi, hm => by
    unfold forV
    simp only [items_cns]
    cases e : xs[i]? with
    | none =>
      have e2 : i = xs.length := by
        have := List.getElem?_eq_none_iff.mp e
        omega
      subst e2
      exact ⟨.nx σ, st, rfl, .inl p⟩
    | some d =>
      obtain ⟨σ1, r, st2, h1, h2, h3⟩ := h i σ st d e p
      have hlt := (List.getElem?_eq_some_iff.mp e).1
      simp only [h1, h2]
      cases r with
      | nx σ2 => exact for_cns P QB QR h m (i + 1) σ2 st2 h3 (by omega) (by omega)
      | cnt σ2 => exact for_cns P QB QR h m (i + 1) σ2 st2 h3 (by omega) (by omega)
      | brk σ2 => exact ⟨.nx σ2, st2, rfl, .inr h3⟩
      | ret d => exact ⟨.ret d, st2, rfl, h3⟩
/-- .. where no turn leaves -/
theorem for_all (P : Nat → Sl → Sto → Prop)
    (h : ∀ (i : Nat) (σ : Sl) (st : Sto) (d : D), xs[i]? = some d → P i σ st → ∃ σ1 σ2 st2, g d σ = some σ1 ∧ b σ1 st = some (.nx σ2, st2) ∧ P (i + 1) σ2 st2)
    {m : Nat} {σ : Sl} {st : Sto} (p : P 0 σ st) (hm : xs.length < m) : ∃ σ2 st2, forV (.cns xs) g b m 0 σ st = some (.nx σ2, st2) ∧ P xs.length σ2 st2 := by
  obtain ⟨r, st2, h1, h2⟩ := for_cns P (fun _ _ => False) (fun _ _ => False) (fun i σ st d e p => by
    obtain ⟨σ1, σ2, st2, h1, h2, h3⟩ := h i σ st d e p
    exact ⟨σ1, .nx σ2, st2, h1, h2, h3⟩) m 0 σ st p (Nat.zero_le _) (by omega)
  cases r with
  | nx σ2 => exact ⟨σ2, st2, h1, h2.resolve_right id⟩
  | brk _ => exact h2.elim
  | cnt _ => exact h2.elim
  | ret _ => exact h2.elim
/-- over a list that stays -/
theorem for_lst {n : Nat} (P : Nat → Sl → Sto → Prop) (QB : Sl → Sto → Prop) (QR : D → Sto → Prop) (hg : ∀ i σ st, P i σ st → getL st n = some xs)
    (h : ∀ (i : Nat) (σ : Sl) (st : Sto) (d : D), xs[i]? = some d → P i σ st → ∃ σ1 r st2, g d σ = some σ1 ∧ b σ1 st = some (r, st2) ∧ match r with
      | .nx σ2 => P (i + 1) σ2 st2
      | .cnt σ2 => P (i + 1) σ2 st2
      | .brk σ2 => QB σ2 st2
      | .ret d => QR d st2) :
    ∀ (m i : Nat) (σ : Sl) (st : Sto), P i σ st → i ≤ xs.length → xs.length - i < m → ∃ r st2, forV (.lst n) g b m i σ st = some (r, st2) ∧ match r with
      | .nx σ2 => P xs.length σ2 st2 ∨ QB σ2 st2
      | .ret d => QR d st2
      | _ => False
  | 0, i, σ, st, p, hi, hm => by omega
  | m + 1, i, σ, st, p, hi, hm => by
    unfold forV
    simp only [items_lst, hg i σ st p]
    cases e : xs[i]? with
    | none =>
      have e2 : i = xs.length := by
        have := List.getElem?_eq_none_iff.mp e
        omega
      subst e2
      exact ⟨.nx σ, st, rfl, .inl p⟩
    | some d =>
      obtain ⟨σ1, r, st2, h1, h2, h3⟩ := h i σ st d e p
      have hlt := (List.getElem?_eq_some_iff.mp e).1
      simp only [h1, h2]
      cases r with
      | nx σ2 => exact for_lst P QB QR hg h m (i + 1) σ2 st2 h3 (by omega) (by omega)
      | cnt σ2 => exact for_lst P QB QR hg h m (i + 1) σ2 st2 h3 (by omega) (by omega)
      | brk σ2 => exact ⟨.nx σ2, st2, rfl, .inr h3⟩
      | ret d => exact ⟨.ret d, st2, rfl, h3⟩
theorem for_lst_all {n : Nat} (P : Nat → Sl → Sto → Prop) (hg : ∀ i σ st, P i σ st → getL st n = some xs)
    (h : ∀ (i : Nat) (σ : Sl) (st : Sto) (d : D), xs[i]? = some d → P i σ st → ∃ σ1 σ2 st2, g d σ = some σ1 ∧ b σ1 st = some (.nx σ2, st2) ∧ P (i + 1) σ2 st2)
    {m : Nat} {σ : Sl} {st : Sto} (p : P 0 σ st) (hm : xs.length < m) : ∃ σ2 st2, forV (.lst n) g b m 0 σ st = some (.nx σ2, st2) ∧ P xs.length σ2 st2 := by
  obtain ⟨r, st2, h1, h2⟩ := for_lst P (fun _ _ => False) (fun _ _ => False) hg (fun i σ st d e p => by
    obtain ⟨σ1, σ2, st2, h1, h2, h3⟩ := h i σ st d e p
    exact ⟨σ1, .nx σ2, st2, h1, h2, h3⟩) m 0 σ st p (Nat.zero_le _) (by omega)
  cases r with
  | nx σ2 => exact ⟨σ2, st2, h1, h2.resolve_right id⟩
  | brk _ => exact h2.elim
  | cnt _ => exact h2.elim
  | ret _ => exact h2.elim
theorem rngD_len {lo : Int} {n : Nat} : (rngD lo n).length = n := by simp [rngD]
theorem rngD_get {lo : Int} {n i : Nat} {d : D} (h : (rngD lo n)[i]? = some d) : i < n ∧ d = .int (lo + (i : Nat)) := by
  have hi := (List.getElem?_eq_some_iff.mp h).1
  rw [rngD_len] at hi
  unfold rngD at h
  rw [List.getElem?_map, List.getElem?_range hi] at h
  exact ⟨hi, (Option.some.inj h).symm⟩
/-- while: an invariant and a number that falls -/
theorem whl_inv {c : ST} (P : Sl → Sto → Prop) (μ : Sl → Sto → Nat) (Q : R → Sto → Prop)
    (h : ∀ σ st, P σ st → ∃ t st1, c σ st = some (t, st1) ∧ if t = true then ∃ r st2, b σ st1 = some (r, st2) ∧ match r with
      | .nx σ2 => P σ2 st2 ∧ μ σ2 st2 < μ σ st
      | .cnt σ2 => P σ2 st2 ∧ μ σ2 st2 < μ σ st
      | .brk σ2 => Q (.nx σ2) st2
      | .ret d => Q (.ret d) st2 else Q (.nx σ) st1) :
    ∀ (m : Nat) (σ : Sl) (st : Sto), P σ st → μ σ st < m → ∃ r st2, whlV c b m σ st = some (r, st2) ∧ Q r st2
  | 0, σ, st, p, hm => by omega
  | m + 1, σ, st, p, hm => by
    obtain ⟨t, st1, h1, h2⟩ := h σ st p
    unfold whlV
    simp only [h1, bnd_some]
    cases t with
    | false => exact ⟨.nx σ, st1, rfl, h2⟩
    | true =>
      simp only [if_pos] at h2 ⊢
      obtain ⟨r, st2, h3, h4⟩ := h2
      simp only [h3]
      cases r with
      | nx σ2 => exact whl_inv P μ Q h m σ2 st2 h4.1 (by omega)
      | cnt σ2 => exact whl_inv P μ Q h m σ2 st2 h4.1 (by omega)
      | brk σ2 => exact ⟨.nx σ2, st2, rfl, h4⟩
      | ret d => exact ⟨.ret d, st2, rfl, h4⟩
end
end Iv

namespace Iv
open PySem L2 PySem.Spec
section
variable {X : Cx} {K : PySem.W.Frag} {ww : World}
/-! ### T.index(e), T a written tuple of texts -/
def idxS : List Str → Str → Option Nat
  | [], _ => none
  | y :: ys, z => if y = z then some 0 else (idxS ys z).map (· + 1)
theorem idxS_ok : ∀ {ys : List Str} {z : Str} {j : Nat}, idxS ys z = some j → ys[j]? = some z ∧ ∀ m, m < j → ys[m]? ≠ some z
  | [], z, j, h => by cases h
  | y :: ys, z, j, h => by
    unfold idxS at h
    by_cases e : y = z
    · rw [if_pos e] at h
      cases h
      exact ⟨by simp [e], fun m hm => absurd hm (Nat.not_lt_zero _)⟩
    · rw [if_neg e] at h
      cases e2 : idxS ys z with
      | none => rw [e2] at h; cases h
      | some i =>
        rw [e2] at h
        cases h
        obtain ⟨h1, h2⟩ := idxS_ok e2
        refine ⟨by simpa using h1, fun m hm => ?_⟩
        have hm' : m < i + 1 := hm
        cases m with
        | zero => simpa using e
        | succ m => simpa using h2 m (by omega)
def ConT (K : PySem.W.Frag) (mg : Str → Option Value) (x : Str) (d : D) : Prop := ∃ p ds, d = .tup ds ∧ mg x = some (.ref p) ∧ (∃ o, K.lookup p = some o ∧ o.cls = .type "tuple" ∧ o.dict = none) ∧ ∀ H μ, Rep K H μ d (.ref p)
def indexC (d : D) : OpN := fun ys st => match d, ys with
  | .tup xs, [.str z] => match strsD xs with
    | none => none
    | some zs => match idxS zs z with
      | none => none
      | some j => some (.int (j : Nat), st)
  | _, _ => none
theorem strs_of {H : Hp} {μ : List Addr} : ∀ {xs : List D} {vs : List V} {bs : List Str}, Reps K H μ xs vs → strsD xs = some bs → vs = bs.map V.str
  | [], vs, bs, r, h => by simp only [Reps] at r; cases h; exact r
  | x :: xs, vs, bs, r, h => by
    simp only [Reps] at r
    obtain ⟨v, ws, rfl, r1, r2⟩ := r
    cases x with
    | str b =>
      simp only [strsD] at h
      cases e : strsD xs with
      | none => rw [e] at h; cases h
      | some cs =>
        rw [e] at h
        cases h
        simp only [Rep] at r1
        rw [r1, strs_of r2 e]
        rfl
    | _ => cases h
theorem e_indexC {x : Str} {d : D} {p : Pos} {e : Expr} {apos cpos : Pos} {g : SA} (C : ConT X.K X.mg x d) (hg : Gl X x) (ha : PA X [e] (rdA X.K X.w g))
    (hbase : attributeBase (.Name x p) "index" X.env (eval (.Name x p) X.env) = eval (.Name x p) X.env := by rfl)
    (hfew : ((backTo cpos (starEach [e] X.env)).all (fun x => !x.1) && (backToKw cpos (keywordEach [] X.env)).all (fun x => x.1.isSome)
      && decide ([e].length + ([] : List Keyword).length + (if ([] : List Keyword).isEmpty then 0 else 1) < 30)) = true := by rfl)
    (hline : (apos.endLine == cpos.line) = true := by rfl) (hs : starEach [e] X.env = (false, eval e X.env) :: starEach [] X.env := by rfl) (hd : (x == ("__debug__" : Str)) = false := by decide) :
    PE X (.Call (.Attribute (.Name x p) "index" apos) [e] [] cpos) (rdE X.K X.w (appF (indexC d) g)) := by
  obtain ⟨a, ds, rfl, hm, hk, hr⟩ := C
  refine (pe_bm PySem.F.plainAttrs_tuple PySem.F.slot_tuple_index PySem.F.type_tuple_index mt_tup_index (pe_glob (v := .ref a) hg hm rfl hd) ha hbase hfew hline hs rfl).weak fun τ H Q ⟨μ, st, σ, d', st', gd, er, hv, k⟩ => ?_
  refine ⟨.inr (.inl ⟨rfl, hk⟩), ?_⟩
  obtain ⟨ys, s1, h1, hv⟩ := bnd_eq hv
  refine ⟨μ, st, σ, ys, s1, gd, er, h1, fun μ1 H1 vs g1 d1 r1 => ?_⟩
  unfold indexC at hv
  split at hv
  · rename_i xs z e1
    cases e1
    split at hv
    · cases hv
    · rename_i zs e2
      split at hv
      · cases hv
      · rename_i j e3
        cases hv
        obtain ⟨v, rfl, rv⟩ := reps1 r1
        simp only [Rep] at rv
        have hr1 := hr H1 μ1
        simp only [Rep] at hr1
        obtain ⟨p1, ws, e4, ⟨s, _⟩, rs⟩ := hr1
        cases e4
        obtain ⟨q1, q2⟩ := idxS_ok e3
        exact ⟨a, zs, z, j, rfl, by rw [rv], by rw [← strs_of rs e2]; exact s, q1, q2, k μ1 H1 _ g1 d1 (by simp only [Rep])⟩
  · cases hv
theorem conT_mk {h : Heap} {mg : Str → Option Value} {x : Str} {p : Addr} {ds : List D} {its : Array Value} {n : Nat} {sl : Array (Option Value)} (X : K.In h) (G : h.Ns mainGlobals mg) (a : PySem.W.nsIn K mainGlobals x = some (some (.ref p))) (l : K.lookup p = some ⟨.type "tuple", none, .seq its n, sl⟩) (z : its.size ≤ 1000) (c : CVs K its.toList ds) : ConT K mg x (.tup ds) := by
  obtain ⟨vs, r, q⟩ := cvs_ok c
  exact ⟨p, ds, rfl, PySem.W.mg_of X G a, ⟨_, l, rfl, rfl⟩, fun H μ => rep_tup (.inr ⟨_, _, _, l, rfl, rfl, Nat.le_trans z (by rw [sizeLine_eq]; decide), r⟩) (fun _ => .inr ⟨_, l, rfl, rfl⟩) (q H μ)⟩
end
end Iv

namespace Iv
open PySem L2
theorem cMul_r {i j : Int} (h : (decide (-18446744073709551616 < j) && decide (j < 18446744073709551616)) = true) : cMul i j = true := by
  have h2 : (decide (-(2 ^ 64) < j) && decide (j < 2 ^ 64)) = true := h
  unfold cMul
  rw [h2, Bool.or_true]
theorem cMul_l {i j : Int} (h : (decide (-18446744073709551616 < i) && decide (i < 18446744073709551616)) = true) : cMul i j = true := by
  have h2 : (decide (-(2 ^ 64) < i) && decide (i < 2 ^ 64)) = true := h
  unfold cMul
  rw [h2, Bool.true_or]
theorem small62 (k : Int) (h0 : 0 ≤ k) (h1 : k ≤ 1000000) : -(2 ^ 62) ≤ k ∧ k < 2 ^ 62 := by omega
theorem rng1_ok {g : SA} {σ : Sl} {st st1 : Sto} {k : Int} (h : g σ st = some ([.int k], st1)) (h0 : 0 ≤ k) (h1 : k ≤ 1000000) : rngI1 g σ st = some (.cns (rngD 0 k.toNat), st1) := by
  rw [rngI1_eq, h, bnd_some]
  exact if_pos (small62 k h0 h1)
theorem rng2_ok {g : SA} {σ : Sl} {st st1 : Sto} {i k : Int} (h : g σ st = some ([.int i, .int k], st1)) (h0 : 0 ≤ i) (h1 : i ≤ 1000000) (h2 : 0 ≤ k) (h3 : k ≤ 1000000) : rngI2 g σ st = some (.cns (rngD i (k - i).toNat), st1) := by
  rw [rngI2_eq, h, bnd_some]
  have a := small62 i h0 h1
  have b := small62 k h2 h3
  exact if_pos ⟨a.1, a.2, b.1, b.2⟩
theorem rng1_nat {g : SA} {σ : Sl} {st st1 : Sto} {n : Nat} (h : g σ st = some ([.int (n : Int)], st1)) (h1 : n ≤ LIM) : rngI1 g σ st = some (.cns (rngD 0 n), st1) := by
  have q : ∀ k : Int, k = (n : Int) → rngI1 g σ st = some (.cns (rngD 0 n), st1) := fun k hk => by
    have h1' : n ≤ 1000000 := h1
    have e := rng1_ok (k := k) (by rw [hk]; exact h) (by omega) (by omega)
    rw [e, hk, Int.toNat_natCast]
  exact q _ rfl
/-! ### written texts -/
theorem map_inj {α β : Type} {f : α → β} (hf : ∀ x y, f x = f y → x = y) : ∀ {l m : List α}, l.map f = m.map f → l = m
  | [], [], _ => rfl
  | [], _ :: _, h => by cases h
  | _ :: _, [], h => by cases h
  | x :: l, y :: m, h => by
    simp only [List.map_cons, List.cons.injEq] at h
    rw [hf x y h.1, map_inj hf h.2]
theorem ofs_codes (a : String) : (Str.ofString a).cps.toList = a.toList.map Char.toNat := by rw [Str.ofString_eq_toList]
theorem ofs_inj (a b : String) : (Str.ofString a = Str.ofString b) = (a = b) := by
  apply propext
  constructor
  · intro h
    have h2 := congrArg (fun s : Str => s.cps.toList) h
    simp only [ofs_codes] at h2
    have h3 := map_inj (fun x y e => Char.toNat_inj.mp e) h2
    exact String.toList_inj.mp h3
  · rintro rfl; rfl
/-! ### what a meaning comes to, with what is wanted of it -/
def Wp (x : Option (R × Sto)) (Q : R → Sto → Prop) : Prop := ∃ r st, x = some (r, st) ∧ Q r st
section
variable {σ σ1 σ2 : Sl} {st st1 st2 : Sto} {d : D} {f : SE} {c : ST} {a b : SS} {i n m : Nat} {r : R} {Q Q' : R → Sto → Prop} {g : Tg} {xs : List D}
theorem wp_ok {x : Option (R × Sto)} (h : x = some (r, st)) (q : Q r st) : Wp x Q := ⟨r, st, h, q⟩
theorem wp_mono {x : Option (R × Sto)} (h : Wp x Q) (k : ∀ r s, Q r s → Q' r s) : Wp x Q' := let ⟨r, s, e, q⟩ := h; ⟨r, s, e, k r s q⟩
theorem wp_seq (h : Wp (a σ st) fun r s => match r with
    | .nx σ' => Wp (b σ' s) Q
    | r => Q r s) : Wp (seqS a b σ st) Q := by
  obtain ⟨r, s, e, q⟩ := h
  unfold Wp
  rw [seqS_eq, e]
  cases r with
  | nx σ' => exact q
  | brk σ' => exact ⟨_, _, rfl, q⟩
  | cnt σ' => exact ⟨_, _, rfl, q⟩
  | ret d => exact ⟨_, _, rfl, q⟩
/-- a step that goes on -/
theorem wp_nx (h : a σ st = some (.nx σ1, st1)) (q : Wp (b σ1 st1) Q) : Wp (seqS a b σ st) Q := wp_seq ⟨_, _, h, q⟩
theorem wp_ret (h : f σ st = some (d, st1)) (q : Q (.ret d) st1) : Wp (retS f σ st) Q := ⟨_, _, by rw [retS_eq, h, bnd_some], q⟩
theorem wp_asg (h : f σ st = some (d, st1)) (h2 : g d σ = some σ1) (q : Q (.nx σ1) st1) : Wp (asgS g f σ st) Q := ⟨_, _, by rw [asgS_eq, h, bnd_some, h2]; rfl, q⟩
theorem wp_ex (h : f σ st = some (d, st1)) (q : Q (.nx σ) st1) : Wp (exS f σ st) Q := ⟨_, _, by rw [exS_eq, h, bnd_some], q⟩
theorem wp_skip (q : Q (.nx σ) st) : Wp (nxS σ st) Q := ⟨_, _, rfl, q⟩
theorem wp_if {t : Bool} (h : c σ st = some (t, st1)) (h1 : t = true → Wp (a σ st1) Q) (h2 : t = false → Wp (b σ st1) Q) : Wp (ifS c a b σ st) Q := by
  unfold Wp
  rw [ifS_eq, h, bnd_some]
  cases t with
  | true => exact h1 rfl
  | false => exact h2 rfl
theorem wp_for {i : SJ} (P : Nat → Sl → Sto → Prop) (hi : i σ st = some (.cns xs, st1)) (h0 : P 0 σ st1)
    (h : ∀ (j : Nat) (σ : Sl) (st : Sto) (d : D), xs[j]? = some d → P j σ st → ∃ σ1, g d σ = some σ1 ∧ Wp (b σ1 st) fun r s => match r with
      | .nx σ2 => P (j + 1) σ2 s
      | .cnt σ2 => P (j + 1) σ2 s
      | .brk σ2 => Q (.nx σ2) s
      | .ret d => Q (.ret d) s)
    (he : ∀ σ s, P xs.length σ s → Q (.nx σ) s) : Wp (forS i g b σ st) Q := by
  obtain ⟨r, s, e, q⟩ := for_cns (g := g) (b := b) P (fun σ s => Q (.nx σ) s) (fun d s => Q (.ret d) s) (fun j σ st d e p => by
    obtain ⟨σ1, h1, r, s, h2, h3⟩ := h j σ st d e p
    exact ⟨σ1, r, s, h1, h2, by cases r <;> exact h3⟩) (xs.length + 1) 0 σ st1 h0 (Nat.zero_le _) (by omega)
  refine ⟨r, s, by rw [forS_eq, hi, bnd_some]; exact e, ?_⟩
  cases r with
  | nx σ' => exact q.elim (he σ' s) id
  | ret d => exact q
  | brk σ' => exact q.elim
  | cnt σ' => exact q.elim
theorem wp_forL {i : SJ} (P : Nat → Sl → Sto → Prop) (hi : i σ st = some (.lst n, st1)) (hx : getL st1 n = some xs) (h0 : P 0 σ st1) (hg : ∀ j σ s, P j σ s → getL s n = some xs)
    (h : ∀ (j : Nat) (σ : Sl) (st : Sto) (d : D), xs[j]? = some d → P j σ st → ∃ σ1, g d σ = some σ1 ∧ Wp (b σ1 st) fun r s => match r with
      | .nx σ2 => P (j + 1) σ2 s
      | .cnt σ2 => P (j + 1) σ2 s
      | .brk σ2 => Q (.nx σ2) s
      | .ret d => Q (.ret d) s)
    (he : ∀ σ s, P xs.length σ s → Q (.nx σ) s) : Wp (forS i g b σ st) Q := by
  obtain ⟨r, s, e, q⟩ := for_lst (g := g) (b := b) (n := n) P (fun σ s => Q (.nx σ) s) (fun d s => Q (.ret d) s) hg (fun j σ st d e p => by
    obtain ⟨σ1, h1, r, s, h2, h3⟩ := h j σ st d e p
    exact ⟨σ1, r, s, h1, h2, by cases r <;> exact h3⟩) (xs.length + 1) 0 σ st1 h0 (Nat.zero_le _) (by omega)
  refine ⟨r, s, by rw [forS_eq, hi, bnd_some]; simp only [items_lst, hx]; exact e, ?_⟩
  cases r with
  | nx σ' => exact q.elim (he σ' s) id
  | ret d => exact q
  | brk σ' => exact q.elim
  | cnt σ' => exact q.elim
theorem wp_while {k : Nat} (P : Sl → Sto → Prop) (μ : Sl → Sto → Nat) (h0 : P σ st) (hk : μ σ st < k)
    (h : ∀ σ st, P σ st → ∃ t st1, c σ st = some (t, st1) ∧ (t = true → Wp (b σ st1) fun r s => match r with
      | .nx σ2 => P σ2 s ∧ μ σ2 s < μ σ st
      | .cnt σ2 => P σ2 s ∧ μ σ2 s < μ σ st
      | .brk σ2 => Q (.nx σ2) s
      | .ret d => Q (.ret d) s) ∧ (t = false → Q (.nx σ) st1)) : Wp (whlS k c b σ st) Q := by
  obtain ⟨r, s, e, q⟩ := whl_inv (c := c) (b := b) P μ Q (fun σ st p => by
    obtain ⟨t, s1, h1, h2, h3⟩ := h σ st p
    refine ⟨t, s1, h1, ?_⟩
    cases t with
    | true =>
      obtain ⟨r, s, h4, h5⟩ := h2 rfl
      exact ⟨r, s, h4, by cases r <;> exact h5⟩
    | false => exact h3 rfl) k σ st h0 hk
  exact ⟨r, s, e, q⟩
/-- a def's own end -/
theorem wp_run {ns np : Nat} {ds : List D} {Q : D → Sto → Prop} (hl : ds.length = np) (h : Wp (b (ds.map some ++ List.replicate (ns - np) none) st) fun r s => match r with
    | .nx _ => Q .non s
    | .ret d => Q d s
    | _ => False) : ∃ d s, runF ns np b ds st = some (d, s) ∧ Q d s := by
  obtain ⟨r, s, e, q⟩ := h
  rw [runF_eq, if_pos hl, e]
  cases r with
  | nx _ => exact ⟨_, _, rfl, q⟩
  | ret d => exact ⟨_, _, rfl, q⟩
  | brk _ => exact q.elim
  | cnt _ => exact q.elim
end
end Iv

namespace Iv
open PySem L2 PySem.Spec
section
variable {X : Cx} {K : PySem.W.Frag} {ww : World}
/-! ### s.index(e), the sign is there -/
def sindexO : OpM := fun x ys st => match x, ys with
  | .str a, [.str b] => match Txt.index0 a b with
    | some k => some (.int (k : Nat), st)
    | none => none
  | _, _ => none
@[simp] theorem sindexO_eq {a b : Str} {st : Sto} : sindexO (.str a) [.str b] st = (match Txt.index0 a b with
    | some k => some (.int (k : Nat), st)
    | none => none) := rfl
theorem e_sindex {o e : Expr} {apos cpos : Pos} {f : SE} {g : SA} (hc : X.calm = true) (ho : PE X o (rdE X.K X.w f)) (ha : PA X [e] (rdA X.K X.w g))
    (hbase : attributeBase o "index" X.env (eval o X.env) = eval o X.env := by rfl)
    (hfew : ((backTo cpos (starEach [e] X.env)).all (fun x => !x.1) && (backToKw cpos (keywordEach [] X.env)).all (fun x => x.1.isSome)
      && decide ([e].length + ([] : List Keyword).length + (if ([] : List Keyword).isEmpty then 0 else 1) < 30)) = true := by rfl)
    (hline : (apos.endLine == cpos.line) = true := by rfl) (hs : starEach [e] X.env = (false, eval e X.env) :: starEach [] X.env := by rfl) :
    PE X (.Call (.Attribute o "index" apos) [e] [] cpos) (rdE X.K X.w (bmF "str" sindexO f g)) :=
  (pe_bmS PySem.F.plainAttrs_str PySem.F.slot_str_index PySem.F.type_str_index (mt_indexX (W := fun _ _ _ _ => False) hc (fun u s' h => by
    obtain ⟨_, _, _, _, _, _, _, _, _, _, _, _, _, _, _, _, w⟩ := h
    exact w.elim)) ho ha hbase hfew hline hs rfl).weak fun τ H Q ⟨μ, st, σ, d, st', gd, er, hv, k⟩ => by
    obtain ⟨x, s1, h1, hv⟩ := bnd_eq hv
    split at hv
    · rename_i ht
      obtain ⟨xs, s2, h2, hv⟩ := bnd_eq hv
      refine ⟨μ, st, σ, x, s1, gd, er, h1, fun μ1 H1 v g1 d1 r1 => ⟨ty_of d1 r1 ht, ?_⟩⟩
      refine ⟨μ1, s1, σ, xs, s2, d1, er.m g1, h2, fun μ2 H2 vs g2 d2 r2 => ?_⟩
      cases x with
      | str a =>
        cases xs with
        | nil => cases hv
        | cons y ys =>
          cases ys with
          | cons _ _ => cases y <;> cases hv
          | nil =>
            cases y with
            | str b =>
              rw [sindexO_eq] at hv
              split at hv
              · rename_i j e1
                cases hv
                obtain ⟨w, rfl, rw'⟩ := reps1 r2
                simp only [Rep] at r1 rw'
                subst r1 rw'
                refine ⟨a, b, rfl, rfl, fun k' e2 => ?_, fun e2 => ?_⟩
                · rw [e1] at e2
                  cases e2
                  exact k μ2 H2 _ (g1.trans g2) d2 (by simp only [Rep])
                · rw [e1] at e2
                  cases e2
              · cases hv
            | _ => cases hv
      | _ => cases hv
    · cases hv
end
end Iv

namespace Iv
open PySem L2
/-! ### comprehensions: each item's own value, in order -/
theorem comp_loop {J : It} {g : Tg} {e : SE} {σ0 : Sl} {st1 : Sto} {xs ys : List D} {n : Nat} (hn : st1.length ≤ n) (hz : xs.length ≤ LIM) (hy : ys.length = xs.length) (hJ : ∀ s, Ext st1 s → items J s = some xs)
    (h : ∀ (i : Nat) (x y : D), xs[i]? = some x → ys[i]? = some y → ∀ st, Ext st1 st → ∃ σ1 st2, g x σ0 = some σ1 ∧ e σ1 st = some (y, st2) ∧ Ext st st2) :
    ∀ (m i : Nat) (s : Sto), Ext st1 s → s[n]? = some (.lst (ys.take i)) → i ≤ xs.length → xs.length - i < m → ∃ s2, compV J g yesT e n σ0 m i s = some s2 ∧ Ext st1 s2 ∧ s2[n]? = some (.lst ys)
  | 0, i, s, _, _, _, hm => by omega
  | m + 1, i, s, hs, ha, hi, hm => by
    unfold compV
    simp only [hJ s hs]
    cases ex : xs[i]? with
    | none =>
      have e2 : i = xs.length := by
        have := List.getElem?_eq_none_iff.mp ex
        omega
      subst e2
      rw [← hy, List.take_length] at ha
      exact ⟨s, rfl, hs, ha⟩
    | some x =>
      have hlt := (List.getElem?_eq_some_iff.mp ex).1
      have ey : ys[i]? = some (ys[i]'(by omega)) := List.getElem?_eq_getElem (by omega)
      obtain ⟨σ1, s2, e1, e2, x2⟩ := h i x _ ex ey s hs
      have ga : getM s2 n = some (ys.take i) := getM_of (x2.at ha)
      have hl : (ys.take i).length < LIM := by
        rw [List.length_take]
        exact Nat.lt_of_lt_of_le (by omega) hz
      have hs2 := hs.trans x2
      have hn2 : n < s2.length := by
        obtain ⟨q, _⟩ := List.getElem?_eq_some_iff.mp (x2.at ha)
        exact q
      simp only [e1, yesT, bnd_some, if_true, e2, ga, hl]
      refine comp_loop hn hz hy hJ h m (i + 1) _ (hs2.set hn) ?_ hlt (by omega)
      rw [List.getElem?_set_self hn2, List.take_add_one, ey]
      rfl
theorem comp_ok {vs : List Nat} {i : SJ} {g : Tg} {e : SE} {σ : Sl} {st st1 : Sto} {J : It} {xs : List D} (ys : List D) (hi : i σ st = some (J, st1)) (hz : xs.length ≤ LIM) (hy : ys.length = xs.length) (hJ : ∀ s, Ext st1 s → items J s = some xs)
    (h : ∀ (i : Nat) (x y : D), xs[i]? = some x → ys[i]? = some y → ∀ st, Ext st1 st → ∃ σ1 st2, g x (wipeD σ vs) = some σ1 ∧ e σ1 st = some (y, st2) ∧ Ext st st2) :
    ∃ s2, compF vs i g yesT e σ st = some (.loc st1.length, s2) ∧ Ext st1 s2 ∧ s2[st1.length]? = some (.lst ys) := by
  obtain ⟨s2, e2, x2, g2⟩ := comp_loop (n := st1.length) (σ0 := wipeD σ vs) (Nat.le_refl _) hz hy hJ h (xs.length + 1) 0 (st1 ++ [.lst []]) (Ext.app _) (by simp) (Nat.zero_le _) (by omega)
  refine ⟨s2, ?_, x2, g2⟩
  unfold compF
  simp only [hi, bnd_some, hJ st1 Ext.refl, e2, Option.map_some]
end Iv

namespace Lw
open PySem L2 Iv
def c_DIGITS : D := .str "0123456789"
def c_LETTERS : D := .str "abcdefghijklmnopqrstuvwxyz"
def c_LONGEST_WORD : D := .int 8
def c_SIGNS : D := .str "+-*=<()"
def c_REGISTERS : D := .tup [.str "a", .str "b", .str "c", .str "d"]
def c_RESERVED : D := .tup [.str "var", .str "lock", .str "cond", .str "of", .str "queue", .str "thread", .str "let", .str "get", .str "put", .str "add", .str "unlock", .str "wait", .str "notify", .str "all", .str "send", .str "take", .str "check", .str "go", .str "if", .str "begin", .str "end", .str "stop", .str "and", .str "or", .str "not"]
def b_tokens (p__token_at : Fx) : SS :=
  (seqS (asgS (nmG 1) (lstF nilF))
  (seqS (asgS (nmG 2) (cstF (.int 0)))
  (seqS (whlS 100000 (cmpT ltO (varF 2) (appF lenO (consF (varF 0) nilF))) (ifS (cmpT (eqO false) (binF ixO (varF 0) (varF 2)) (cstF (.str " "))) (augS 2 iaddO (cstF (.int 1))) (seqS (asgS (nmG 3) (callF p__token_at (consF (varF 0) (consF (varF 2) nilF))))
  (seqS (exS (bmF "list" appendO (varF 1) (consF (varF 3) nilF)))
  (augS 2 iaddO (appF lenO (consF (binF ixO (varF 3) (cstF (.int 1))) nilF)))))))
  (retS (varF 1)))))
def f_tokens (p__token_at : Fx) : Fx := runF 4 1 (b_tokens p__token_at)
def b__token_at (p__run_at : Fx) (p__is_number : Fx) : SS :=
  (seqS (ifS (cmpT (inO false) (binF ixO (varF 0) (varF 1)) (cstF c_DIGITS)) (seqS (asgS (nmG 2) (callF p__run_at (consF (varF 0) (consF (varF 1) (consF (cstF c_DIGITS) nilF)))))
  (retS (tupF (consF (ifF (truF (callF p__is_number (consF (varF 2) nilF))) (cstF (.str "number")) (cstF (.str "bad"))) (consF (varF 2) nilF))))) nxS)
  (seqS (ifS (cmpT (inO false) (binF ixO (varF 0) (varF 1)) (cstF c_LETTERS)) (seqS (asgS (nmG 2) (callF p__run_at (consF (varF 0) (consF (varF 1) (consF (binF addO (cstF c_LETTERS) (cstF c_DIGITS)) nilF)))))
  (retS (tupF (consF (ifF (cmpT leO (appF lenO (consF (varF 2) nilF)) (cstF c_LONGEST_WORD)) (cstF (.str "word")) (cstF (.str "bad"))) (consF (varF 2) nilF))))) nxS)
  (retS (tupF (consF (ifF (cmpT (inO false) (binF ixO (varF 0) (varF 1)) (cstF c_SIGNS)) (cstF (.str "sign")) (cstF (.str "bad"))) (consF (binF ixO (varF 0) (varF 1)) nilF))))))
def f__token_at (p__run_at : Fx) (p__is_number : Fx) : Fx := runF 3 2 (b__token_at p__run_at p__is_number)
def b__run_at  : SS :=
  (seqS (asgS (nmG 3) (varF 1))
  (seqS (whlS 100000 (andT (cmpT ltO (varF 3) (appF lenO (consF (varF 0) nilF))) (cmpT (inO false) (binF ixO (varF 0) (varF 3)) (varF 2))) (augS 3 iaddO (cstF (.int 1))))
  (retS (slF cutO (varF 0) (someO (varF 1)) (someO (varF 3))))))
def f__run_at  : Fx := runF 4 3 (b__run_at )
def b__is_number  : SS :=
  (retS (orF (binF (eqO false) (appF lenO (consF (varF 0) nilF)) (cstF (.int 1))) (andF (binF (eqO false) (appF lenO (consF (varF 0) nilF)) (cstF (.int 2))) (binF (eqO true) (binF ixO (varF 0) (cstF (.int 0))) (cstF (.str "0"))))))
def f__is_number  : Fx := runF 1 1 (b__is_number )
def b_is_name (p_tokens : Fx) : SS :=
  (retS (andF (binF (eqO false) (callF p_tokens (consF (varF 0) nilF)) (lstF (consF (tupF (consF (cstF (.str "word")) (consF (varF 0) nilF))) nilF))) (andF (binF (inO true) (varF 0) (cstF c_REGISTERS)) (binF (inO true) (varF 0) (cstF c_RESERVED)))))
def f_is_name (p_tokens : Fx) : Fx := runF 1 1 (b_is_name p_tokens)
def b__law_cell  : SS :=
  (seqS (ifS (cmpT ltO (varF 1) (appF lenO (consF (varF 0) nilF))) (retS (binF ixO (varF 0) (varF 1))) nxS)
  (retS (cstF (.int 0))))
def f__law_cell  : Fx := runF 2 2 (b__law_cell )
def b__law_digits (p__law_cell : Fx) : SS :=
  (seqS (asgS (nmG 3) (lstF nilF))
  (seqS (forS (rngI2 (consF (varF 1) (consF (varF 2) nilF))) (nmG 4) (seqS (asgS (nmG 5) (callF p__law_cell (consF (varF 0) (consF (varF 4) nilF))))
  (seqS (ifS (cmpT ltO (varF 5) (cstF (.int 0))) (asgS (nmG 5) (binF subO (cstF (.int 1)) (binF mulO (cstF (.int 2)) (varF 5)))) nxS)
  (ifS (cmpT geO (varF 5) (binF powO (cstF (.int 10)) (cstF (.int 18)))) (forS (rngI1 (consF (cstF (.int 60)) nilF)) (nmG 6) (ifS (cmpT gtO (varF 5) (cstF (.int 0))) (seqS (exS (bmF "list" appendO (varF 3) (consF (binF modO (appF intOf (consF (varF 5) nilF)) (cstF (.int 1000))) nilF)))
  (asgS (nmG 5) (binF fdivO (varF 5) (cstF (.int 1000))))) nxS)) (seqS (asgS (nmG 7) (binF modO (appF intOf (consF (binF addO (binF addO (binF mulO (varF 5) (cstF (.int 48271))) (binF mulO (varF 4) (cstF (.int 69621)))) (cstF (.int 11))) nilF)) (cstF (.int 2147483647))))
  (forS (rngI1 (consF (cstF (.int 12)) nilF)) (nmG 6) (seqS (asgS (nmG 7) (binF modO (appF intOf (consF (binF addO (binF addO (binF mulO (varF 7) (cstF (.int 16807))) (binF mulO (cstF (.int 7)) (varF 6))) (cstF (.int 1))) nilF)) (cstF (.int 2147483647))))
  (exS (bmF "list" appendO (varF 3) (consF (binF modO (appF intOf (consF (binF fdivO (varF 7) (cstF (.int 997))) nilF)) (cstF (.int 1000))) nilF))))))))))
  (retS (varF 3))))
def f__law_digits (p__law_cell : Fx) : Fx := runF 8 3 (b__law_digits p__law_cell)
def b__law_draw  : SS :=
  (seqS (asgS (nmG 2) (binF ixO (varF 0) (cstF (.int 1))))
  (seqS (setS (varF 0) (cstF (.int 1)) (binF addO (varF 2) (cstF (.int 1))))
  (seqS (ifS (cmpT ltO (varF 2) (appF lenO (consF (binF ixO (varF 0) (cstF (.int 0))) nilF))) (retS (binF modO (appF intOf (consF (binF ixO (binF ixO (varF 0) (cstF (.int 0))) (varF 2)) nilF)) (varF 1))) nxS)
  (retS (cstF (.int 0))))))
def f__law_draw  : Fx := runF 3 2 (b__law_draw )
def b__law_same (p__law_same : Fx) : SS :=
  (seqS (ifS (orT (truF (unF (isiO "list") (varF 1))) (truF (unF (isiO "tuple") (varF 1)))) (seqS (ifS (orT (cmpT (eqO true) (unF (isiO "list") (varF 1)) (unF (isiO "list") (varF 0))) (cmpT (eqO true) (unF (isiO "tuple") (varF 1)) (unF (isiO "tuple") (varF 0)))) (retS (cstF (.bl false))) nxS)
  (seqS (ifS (cmpT (eqO true) (appF lenO (consF (varF 0) nilF)) (appF lenO (consF (varF 1) nilF))) (retS (cstF (.bl false))) nxS)
  (seqS (forS (rngI1 (consF (appF lenO (consF (varF 1) nilF)) nilF)) (nmG 2) (ifS (notT (truF (callF p__law_same (consF (binF ixO (varF 0) (varF 2)) (consF (binF ixO (varF 1) (varF 2)) nilF))))) (retS (cstF (.bl false))) nxS))
  (retS (cstF (.bl true)))))) nxS)
  (seqS (ifS (cmpT (isNO false) (varF 1) (cstF .non)) (retS (binF (isNO false) (varF 0) (cstF .non))) nxS)
  (seqS (ifS (truF (unF (isiO "bool") (varF 1))) (retS (andF (unF (isiO "bool") (varF 0)) (binF (eqO false) (varF 0) (varF 1)))) nxS)
  (seqS (ifS (truF (unF (isiO "str") (varF 1))) (retS (andF (unF (isiO "str") (varF 0)) (binF (eqO false) (varF 0) (varF 1)))) nxS)
  (retS (andF (unF (isiO "int") (varF 0)) (andF (notF (unF (isiO "bool") (varF 0))) (binF (eqO false) (varF 0) (varF 1)))))))))
def f__law_same (p__law_same : Fx) : Fx := runF 3 2 (b__law_same p__law_same)
def b__law_due  : SS :=
  (seqS (asgS (nmG 1) (cstF (.str "abcdefghijklmnopqrstuvwxyz")))
  (seqS (asgS (nmG 2) (lstF (consF (cstF (.str "var")) (consF (cstF (.str "lock")) (consF (cstF (.str "cond")) (consF (cstF (.str "of")) (consF (cstF (.str "queue")) (consF (cstF (.str "thread")) (consF (cstF (.str "let")) (consF (cstF (.str "get")) (consF (cstF (.str "put")) (consF (cstF (.str "add")) (consF (cstF (.str "unlock")) (consF (cstF (.str "wait")) (consF (cstF (.str "notify")) (consF (cstF (.str "all")) (consF (cstF (.str "send")) (consF (cstF (.str "take")) (consF (cstF (.str "check")) (consF (cstF (.str "go")) (consF (cstF (.str "if")) (consF (cstF (.str "begin")) (consF (cstF (.str "end")) (consF (cstF (.str "stop")) (consF (cstF (.str "and")) (consF (cstF (.str "or")) (consF (cstF (.str "not")) nilF)))))))))))))))))))))))))))
  (seqS (ifS (orT (cmpT (inO false) (varF 0) (varF 2)) (orT (cmpT (inO false) (varF 0) (lstF (consF (cstF (.str "a")) (consF (cstF (.str "b")) (consF (cstF (.str "c")) (consF (cstF (.str "d")) nilF)))))) (orT (cmpT ltO (appF lenO (consF (varF 0) nilF)) (cstF (.int 1))) (orT (cmpT gtO (appF lenO (consF (varF 0) nilF)) (cstF (.int 8))) (cmpT (inO true) (binF ixO (varF 0) (cstF (.int 0))) (varF 1)))))) (retS (cstF (.bl false))) nxS)
  (seqS (forS (anyI (varF 0)) (nmG 3) (ifS (cmpT (inO true) (varF 3) (binF addO (varF 1) (cstF (.str "0123456789")))) (retS (cstF (.bl false))) nxS))
  (retS (cstF (.bl true)))))))
def f__law_due  : Fx := runF 4 1 (b__law_due )
def b_law (p__law_digits : Fx) (p__law_draw : Fx) (p__law_same : Fx) (p__law_due : Fx) (p_is_name : Fx) : SS :=
  (seqS (asgS (nmG 1) (lstF (consF (callF p__law_digits (consF (varF 0) (consF (cstF (.int 0)) (consF (cstF (.int 63)) nilF)))) (consF (cstF (.int 0)) nilF))))
  (seqS (asgS (nmG 2) (lstF (consF (cstF (.str "var")) (consF (cstF (.str "lock")) (consF (cstF (.str "cond")) (consF (cstF (.str "of")) (consF (cstF (.str "queue")) (consF (cstF (.str "thread")) (consF (cstF (.str "let")) (consF (cstF (.str "get")) (consF (cstF (.str "put")) (consF (cstF (.str "add")) (consF (cstF (.str "unlock")) (consF (cstF (.str "wait")) (consF (cstF (.str "notify")) (consF (cstF (.str "all")) (consF (cstF (.str "send")) (consF (cstF (.str "take")) (consF (cstF (.str "check")) (consF (cstF (.str "go")) (consF (cstF (.str "if")) (consF (cstF (.str "begin")) (consF (cstF (.str "end")) (consF (cstF (.str "stop")) (consF (cstF (.str "and")) (consF (cstF (.str "or")) (consF (cstF (.str "not")) (consF (cstF (.str "a")) (consF (cstF (.str "b")) (consF (cstF (.str "c")) (consF (cstF (.str "d")) (consF (cstF (.str "e")) (consF (cstF (.str "")) nilF)))))))))))))))))))))))))))))))))
  (seqS (forS (rngI1 (consF (cstF (.int 6)) nilF)) (nmG 3) (seqS (asgS (nmG 4) (binF ixO (varF 2) (callF p__law_draw (consF (varF 1) (consF (cstF (.int 31)) nilF)))))
  (seqS (ifS (cmpT (eqO false) (callF p__law_draw (consF (varF 1) (consF (cstF (.int 2)) nilF))) (cstF (.int 0))) (seqS (asgS (nmG 4) (cstF (.str "")))
  (forS (rngI1 (consF (binF addO (cstF (.int 1)) (callF p__law_draw (consF (varF 1) (consF (cstF (.int 10)) nilF)))) nilF)) (nmG 5) (asgS (nmG 4) (binF addO (varF 4) (binF ixO (cstF (.str "abcdefghijklmnopqrstuvwxyz0123456789")) (callF p__law_draw (consF (varF 1) (consF (cstF (.int 36)) nilF)))))))) nxS)
  (seqS (asgS (nmG 6) (callF p__law_draw (consF (varF 1) (consF (cstF (.int 5)) nilF))))
  (seqS (asgS (nmG 7) (callF p__law_draw (consF (varF 1) (consF (binF addO (appF lenO (consF (varF 4) nilF)) (cstF (.int 1))) nilF))))
  (seqS (ifS (cmpT (eqO false) (varF 6) (cstF (.int 0))) (asgS (nmG 4) (binF addO (binF addO (slF cutO (varF 4) noneO (someO (varF 7))) (binF ixO (cstF (.str " A-_x0(\n")) (callF p__law_draw (consF (varF 1) (consF (cstF (.int 8)) nilF))))) (slF cutO (varF 4) (someO (varF 7)) noneO))) nxS)
  (ifS (notT (truF (callF p__law_same (consF (callF p_is_name (consF (varF 4) nilF)) (consF (callF p__law_due (consF (varF 4) nilF)) nilF))))) (retS (cstF (.bl false))) nxS)))))))
  (retS (cstF (.bl true))))))
def f_law (p__law_digits : Fx) (p__law_draw : Fx) (p__law_same : Fx) (p__law_due : Fx) (p_is_name : Fx) : Fx := runF 8 1 (b_law p__law_digits p__law_draw p__law_same p__law_due p_is_name)
end Lw
namespace Lw
open PySem L2 Iv
theorem cell_ok {st : Sto} {n : Nat} {ns : List Int} (h : getL st n = some (ns.map .int)) (k : Nat) : f__law_cell [.loc n, .int k] st = some (.int (ns.getD k 0), st) := by
  by_cases hk : k < ns.length
  · have e : atI (ns.map D.int) (k : Int) = some (.int (ns.getD k 0)) := atI_nat (by rw [List.getElem?_map, List.getElem?_eq_getElem hk]; simp [List.getD, List.getElem?_eq_getElem hk])
    refine run_ret rfl ?_
    simp [b__law_cell, seqS_eq, h, hk, e]
  · refine run_ret rfl ?_
    have e : ns.getD k 0 = 0 := by simp [List.getD, List.getElem?_eq_none (Nat.le_of_not_lt hk)]
    simp [b__law_cell, seqS_eq, h, hk, e]
end Lw

namespace Lw
open PySem L2 Iv
theorem seed_ok (x0 x1 x2 x3 x6 x7 : Option D) (c k : Int) (s : Sto) : ∃ z : Int, asgS (nmG 7) (binF modO (appF intOf (consF (binF addO (binF addO (binF mulO (varF 5) (cstF (.int 48271))) (binF mulO (varF 4) (cstF (.int 69621)))) (cstF (.int 11))) nilF)) (cstF (.int 2147483647))) [x0, x1, x2, x3, some (.int k), some (.int c), x6, x7] s = some (.nx [x0, x1, x2, x3, some (.int k), some (.int c), x6, some (.int z)], s) :=
  ⟨(c * 48271 + k * 69621 + 11) % 2147483647, by simp [cMul_r, cPos]⟩
theorem seed2_ok (x0 x1 x2 x3 x4 x5 : Option D) (c k : Int) (s : Sto) : ∃ z : Int, asgS (nmG 7) (binF modO (appF intOf (consF (binF addO (binF addO (binF mulO (varF 7) (cstF (.int 16807))) (binF mulO (cstF (.int 7)) (varF 6))) (cstF (.int 1))) nilF)) (cstF (.int 2147483647))) [x0, x1, x2, x3, x4, x5, some (.int k), some (.int c)] s = some (.nx [x0, x1, x2, x3, x4, x5, some (.int k), some (.int z)], s) :=
  ⟨(c * 16807 + 7 * k + 1) % 2147483647, by simp [cMul_r, cMul_l, cPos]⟩
/-- the digits: some ints -/
theorem digits_ok {st : Sto} {n : Nat} {ns : List Int} (h : getL st n = some (ns.map .int)) {φ : Fx} (hφ : ∀ (st : Sto) (k : Nat), getL st n = some (ns.map .int) → φ [.loc n, .int k] st = some (.int (ns.getD k 0), st)) :
    ∃ ds : List Int, f__law_digits φ [.loc n, .int 0, .int 63] st = some (.loc st.length, st ++ [.lst (ds.map .int)]) := by
  suffices q : ∃ d s, f__law_digits φ [.loc n, .int 0, .int 63] st = some (d, s) ∧ d = .loc st.length ∧ ∃ ds : List Int, s = st ++ [.lst (ds.map .int)] by
    obtain ⟨d, s, e, rfl, ds, rfl⟩ := q
    exact ⟨ds, e⟩
  have hn : n < st.length := by
    unfold getL at h
    cases e : st[n]? with
    | none => rw [e] at h; cases h
    | some o => exact (List.getElem?_eq_some_iff.mp e).1
  have g1 : ∀ o, getL (st ++ [o]) n = some (ns.map .int) := fun o => Ext.getL (Ext.app [o]) h
  have gm : ∀ xs, getM (st ++ [.lst xs]) st.length = some xs := fun xs => getM_of (by simp)
  have gl : ∀ xs, getL (st ++ [.lst xs]) st.length = some xs := fun xs => getL_of (by simp)
  have ss : ∀ xs ys, (st ++ [OB.lst xs]).set st.length (.lst ys) = st ++ [.lst ys] := fun xs ys => by simp
  refine wp_run rfl ?_
  unfold b__law_digits
  refine wp_nx (σ1 := [some (.loc n), some (.int 0), some (.int 63), some (.loc st.length), none, none, none, none]) (st1 := st ++ [.lst []]) (by simp) ?_
  refine wp_seq (wp_for (xs := rngD 0 63) (fun i σ s => ∃ (ds : List Int) (x4 x5 x6 x7 : Option D), s = st ++ [.lst (ds.map .int)] ∧ ds.length ≤ 60 * i ∧ σ = [some (.loc n), some (.int 0), some (.int 63), some (.loc st.length), x4, x5, x6, x7]) (by simp) ⟨[], none, none, none, none, rfl, by simp, rfl⟩ ?_ ?_)
  · rintro i σ s d hd ⟨ds, x4, x5, x6, x7, rfl, hlen, rfl⟩
    obtain ⟨hi, rfl⟩ := rngD_get hd
    refine ⟨_, rfl, ?_⟩
    refine wp_nx (σ1 := [some (.loc n), some (.int 0), some (.int 63), some (.loc st.length), some (.int (0 + (i : Nat))), some (.int (ns.getD i 0)), x6, x7]) (st1 := st ++ [.lst (ds.map .int)]) (by simp [hφ _ i (g1 _)]) ?_
    generalize ns.getD i 0 = c0
    generalize ((0 : Int) + (i : Nat)) = kk
    refine wp_seq ?_
    refine wp_mono (Q := fun r s => ∃ c : Int, r = .nx [some (.loc n), some (.int 0), some (.int 63), some (.loc st.length), some (.int kk), some (.int c), x6, x7] ∧ s = st ++ [.lst (ds.map .int)]) ?_ ?_
    · by_cases hc : c0 < 0
      · exact wp_ok (r := .nx [some (.loc n), some (.int 0), some (.int 63), some (.loc st.length), some (.int kk), some (.int (1 - 2 * c0)), x6, x7]) (by simp [hc, cMul_l]) ⟨_, rfl, rfl⟩
      · exact wp_ok (r := .nx [some (.loc n), some (.int 0), some (.int 63), some (.loc st.length), some (.int kk), some (.int c0), x6, x7]) (by simp [hc]) ⟨_, rfl, rfl⟩
    · rintro r s ⟨c, rfl, rfl⟩
      refine wp_if (t := decide (10 ^ 18 ≤ c)) (st1 := st ++ [.lst (ds.map .int)]) (by simp [cPow]) (fun _ => ?_) (fun _ => ?_)
      · refine wp_for (xs := rngD 0 60) (fun j σ s => ∃ (es : List Int) (c : Int) (x6 : Option D), s = st ++ [.lst (es.map .int)] ∧ es.length ≤ 60 * i + j ∧ σ = [some (.loc n), some (.int 0), some (.int 63), some (.loc st.length), some (.int kk), some (.int c), x6, x7]) (by simp) ⟨ds, c, x6, rfl, by omega, rfl⟩ ?_ ?_
        · rintro j σ s d hd ⟨es, c, x6, rfl, hes, rfl⟩
          obtain ⟨hj, rfl⟩ := rngD_get hd
          refine ⟨_, rfl, ?_⟩
          generalize ((0 : Int) + (j : Nat)) = jj
          refine wp_if (t := decide (0 < c)) (st1 := st ++ [.lst (es.map .int)]) (by simp) (fun _ => ?_) (fun _ => ?_)
          · refine wp_nx (σ1 := [some (.loc n), some (.int 0), some (.int 63), some (.loc st.length), some (.int kk), some (.int c), some (.int jj), x7]) (st1 := st ++ [.lst ((es ++ [c % 1000]).map .int)]) ?_ ?_
            · have hl : (es.map D.int).length < LIM := by rw [List.length_map]; show es.length < 1000000; omega
              simp only [List.length_map] at hl
              simp [gl, gm, cPos, hl, ss]
            · exact wp_ok (r := .nx [some (.loc n), some (.int 0), some (.int 63), some (.loc st.length), some (.int kk), some (.int (c / 1000)), some (.int jj), x7]) (st := st ++ [.lst ((es ++ [c % 1000]).map .int)]) (by simp [cDiv]) ⟨es ++ [c % 1000], c / 1000, _, rfl, by rw [List.length_append, List.length_singleton]; omega, rfl⟩
          · exact wp_skip ⟨_, _, _, rfl, by omega, rfl⟩
        · rintro σ s ⟨es, c, x6, rfl, hes, rfl⟩
          rw [rngD_len] at hes
          exact ⟨es, _, _, _, _, rfl, by omega, rfl⟩
      · obtain ⟨z0, hz0⟩ := seed_ok (some (.loc n)) (some (.int 0)) (some (.int 63)) (some (.loc st.length)) x6 x7 c kk (st ++ [.lst (ds.map .int)])
        refine wp_nx hz0 ?_
        refine wp_for (xs := rngD 0 12) (fun j σ s => ∃ (es : List Int) (z : Int) (x6 : Option D), s = st ++ [.lst (es.map .int)] ∧ es.length ≤ 60 * i + j ∧ σ = [some (.loc n), some (.int 0), some (.int 63), some (.loc st.length), some (.int kk), some (.int c), x6, some (.int z)]) (by simp) ⟨ds, _, x6, rfl, by omega, rfl⟩ ?_ ?_
        · rintro j σ s d hd ⟨es, z, x6, rfl, hes, rfl⟩
          obtain ⟨hj, rfl⟩ := rngD_get hd
          refine ⟨_, rfl, ?_⟩
          generalize ((0 : Int) + (j : Nat)) = jj
          obtain ⟨z1, hz1⟩ := seed2_ok (some (.loc n)) (some (.int 0)) (some (.int 63)) (some (.loc st.length)) (some (.int kk)) (some (.int c)) z jj (st ++ [.lst (es.map .int)])
          refine wp_nx hz1 ?_
          have hl : es.length < LIM := by show es.length < 1000000; omega
          exact wp_ok (r := .nx [some (.loc n), some (.int 0), some (.int 63), some (.loc st.length), some (.int kk), some (.int c), some (.int jj), some (.int z1)]) (st := st ++ [.lst ((es ++ [z1 / 997 % 1000]).map .int)]) (by simp [cDiv, cPos, gl, gm, hl, ss]) ⟨es ++ [z1 / 997 % 1000], _, _, rfl, by simp; omega, rfl⟩
        · rintro σ s ⟨es, z, x6, rfl, hes, rfl⟩
          rw [rngD_len] at hes
          exact ⟨es, _, _, _, _, rfl, by omega, rfl⟩
  · rintro σ s ⟨ds, x4, x5, x6, x7, rfl, hlen, rfl⟩
    exact wp_ret (by simp) ⟨rfl, ds, rfl⟩
end Lw

namespace Lw
open PySem L2 Iv
/-- the box at b: [the digits, the place] -/
def Box (st : Sto) (b : Nat) : Prop := ∃ (l at_ : Nat) (ds : List Int), l < b ∧ st[b]? = some (.lst [.loc l, .int (at_ : Int)]) ∧ getL st l = some (ds.map .int)
theorem Box.lt {st : Sto} {b : Nat} (h : Box st b) : b < st.length := by
  obtain ⟨l, a, ds, hl, h1, h2⟩ := h
  exact (List.getElem?_eq_some_iff.mp h1).1
theorem Box.ext {st st2 : Sto} {b : Nat} (h : Box st b) (e : Ext st st2) : Box st2 b := by
  obtain ⟨l, a, ds, hl, h1, h2⟩ := h
  exact ⟨l, a, ds, hl, e.at h1, e.getL h2⟩
theorem Box.app {st : Sto} {b : Nat} (h : Box st b) (o : List OB) : Box (st ++ o) b := h.ext (Ext.app o)
/-- a list made behind the box is written -/
theorem Box.set {st : Sto} {b k : Nat} (h : Box st b) {o : OB} (hk : b < k) : Box (st.set k o) b := by
  obtain ⟨l, a, ds, hl, h1, h2⟩ := h
  refine ⟨l, a, ds, hl, by rw [List.getElem?_set_ne (by omega)]; exact h1, ?_⟩
  rw [getL_eq (List.getElem?_set_ne (by omega))]
  exact h2
theorem draw_ok {st : Sto} {b : Nat} (h : Box st b) {m : Int} (hm : 0 < m) : ∃ (v : Int) (st2 : Sto), f__law_draw [.loc b, .int m] st = some (.int v, st2) ∧ 0 ≤ v ∧ v < m ∧ Up b st st2 ∧ st2.length = st.length ∧ Box st2 b := by
  obtain ⟨l, a, ds, hl, h1, h2⟩ := h
  have hb := (List.getElem?_eq_some_iff.mp h1).1
  have e1 : getL st b = some [.loc l, .int (a : Int)] := getL_of h1
  have e2 : getM st b = some [.loc l, .int (a : Int)] := getM_of h1
  have i0 : atI [D.loc l, D.int (a : Int)] 0 = some (.loc l) := rfl
  have i1 : atI [D.loc l, D.int (a : Int)] 1 = some (.int a) := rfl
  have i2 : ixN 2 1 = some 1 := rfl
  have s1 : (st.set b (.lst [.loc l, .int ((a : Int) + 1)]))[b]? = some (.lst [.loc l, .int ((a : Int) + 1)]) := List.getElem?_set_self hb
  have g1 : getL (st.set b (.lst [.loc l, .int ((a : Int) + 1)])) b = some [.loc l, .int ((a : Int) + 1)] := getL_of s1
  have g2 : getL (st.set b (.lst [.loc l, .int ((a : Int) + 1)])) l = some (ds.map .int) := by
    rw [getL_eq (List.getElem?_set_ne (by omega))]
    exact h2
  have j0 : atI [D.loc l, D.int ((a : Int) + 1)] 0 = some (.loc l) := rfl
  have key : ∃ (v : Int), f__law_draw [.loc b, .int m] st = some (.int v, st.set b (.lst [.loc l, .int ((a : Int) + 1)])) ∧ 0 ≤ v ∧ v < m := by
    by_cases ha : a < ds.length
    · have k1 : atI (ds.map D.int) (a : Int) = some (.int ds[a]) := atI_nat (by rw [List.getElem?_map, List.getElem?_eq_getElem ha]; rfl)
      refine ⟨ds[a] % m, run_ret rfl ?_, Int.emod_nonneg _ (by omega), Int.emod_lt_of_pos _ hm⟩
      simp [b__law_draw, seqS_eq, e1, e2, i0, i1, i2, g1, g2, j0, k1, ha, cPos, hm]
    · refine ⟨0, run_ret rfl ?_, Int.le_refl 0, hm⟩
      simp [b__law_draw, seqS_eq, e1, e2, i0, i1, i2, g1, g2, j0, ha]
  obtain ⟨v, q, q1, q2⟩ := key
  exact ⟨v, _, q, q1, q2, Up.set _, by simp, l, a + 1, ds, hl, by rw [s1]; simp, g2⟩
/-! ### the law's own comparison -/
/-- the same data, n lists or tuples deep -/
def Sm (st : Sto) : Nat → D → D → Prop
  | _, .non, .non => True
  | _, .bl a, .bl b => a = b
  | _, .int a, .int b => a = b
  | _, .str a, .str b => a = b
  | n + 1, .tup xs, .tup ys => xs.length = ys.length ∧ ys.length ≤ LIM ∧ ∀ (i : Nat) (x y : D), xs[i]? = some x → ys[i]? = some y → Sm st n x y
  | n + 1, .loc k, .loc l => ∃ xs ys, getL st k = some xs ∧ getL st l = some ys ∧ xs.length = ys.length ∧ ys.length ≤ LIM ∧ ∀ (i : Nat) (x y : D), xs[i]? = some x → ys[i]? = some y → Sm st n x y
  | _, _, _ => False
theorem sm_up {st : Sto} : ∀ {n : Nat} {a b : D}, Sm st n a b → Sm st (n + 1) a b := by
  intro n
  induction n with
  | zero =>
    intro a b h
    cases a <;> cases b <;> first
      | (exfalso; exact h)
      | exact h
  | succ n ih =>
    intro a b h
    cases a <;> cases b <;> first
      | (exfalso; exact h)
      | exact h
      | skip
    · exact ⟨h.1, h.2.1, fun i x y e1 e2 => ih (h.2.2 i x y e1 e2)⟩
    · obtain ⟨xs, ys, g1, g2, hl, hz, hk⟩ := h
      exact ⟨xs, ys, g1, g2, hl, hz, fun i x y e1 e2 => ih (hk i x y e1 e2)⟩
theorem sm_le {st : Sto} {n m : Nat} {a b : D} (h : Sm st n a b) (hm : n ≤ m) : Sm st m a b := by
  induction hm with
  | refl => exact h
  | step _ ih => exact sm_up ih
theorem same_loop {st : Sto} {φ : Fx} {xs ys : List D} {dx dy : D} {i0 : Option D} (hl : xs.length = ys.length) (hz : ys.length ≤ LIM) (hx : ∀ i : Int, ixO dx (.int i) st = (atI xs i).map fun d => (d, st)) (hy : ∀ i : Int, ixO dy (.int i) st = (atI ys i).map fun d => (d, st)) (hly : lenO [dy] st = some (.int ys.length, st))
    (h : ∀ (i : Nat) (x y : D), xs[i]? = some x → ys[i]? = some y → φ [x, y] st = some (.bl true, st)) :
    Wp (forS (rngI1 (consF (appF lenO (consF (varF 1) nilF)) nilF)) (nmG 2) (ifS (notT (truF (callF φ (consF (binF ixO (varF 0) (varF 2)) (consF (binF ixO (varF 1) (varF 2)) nilF))))) (retS (cstF (.bl false))) nxS) [some dx, some dy, i0] st) (fun r s => s = st ∧ ∃ i0, r = .nx [some dx, some dy, i0]) := by
  refine wp_for (xs := rngD 0 ys.length) (fun i σ s => s = st ∧ ∃ i0, σ = [some dx, some dy, i0]) (rng1_nat (by simp [hly]) hz) ⟨rfl, i0, rfl⟩ ?_ ?_
  · rintro i σ s d hd ⟨rfl, i0, rfl⟩
    obtain ⟨hi, rfl⟩ := rngD_get hd
    have ey : ys[i]? = some ys[i] := List.getElem?_eq_getElem hi
    have ex : xs[i]? = some (xs[i]'(by omega)) := List.getElem?_eq_getElem (by omega)
    have ay := atI_nat ey
    have ax := atI_nat ex
    refine ⟨_, rfl, ?_⟩
    refine wp_if (t := false) (st1 := s) (by simp [hx, hy, ax, ay, h i _ _ ex ey]) (fun e => by cases e) (fun _ => wp_skip ⟨rfl, _, rfl⟩)
  · rintro σ s ⟨rfl, i0, rfl⟩
    exact ⟨rfl, i0, rfl⟩
theorem same_ok {st : Sto} {F : Nat → Fx} (hF : ∀ n, F (n + 1) = f__law_same (F n)) : ∀ (n : Nat) (a b : D), Sm st n a b → F (n + 1) [a, b] st = some (.bl true, st) := by
  intro n
  induction n with
  | zero =>
    intro a b h
    rw [hF]
    cases a <;> cases b <;> first
      | (exfalso; exact h)
      | (simp only [Sm] at h; try subst h
         refine run_ret rfl ?_
         simp [b__law_same, seqS_eq])
  | succ n ih =>
    intro a b h
    rw [hF]
    cases a <;> cases b <;> first
      | (exfalso; exact h)
      | skip
    · refine run_ret rfl ?_
      simp [b__law_same, seqS_eq]
    · simp only [Sm] at h; subst h
      refine run_ret rfl ?_
      simp [b__law_same, seqS_eq]
    · simp only [Sm] at h; subst h
      refine run_ret rfl ?_
      simp [b__law_same, seqS_eq]
    · simp only [Sm] at h; subst h
      refine run_ret rfl ?_
      simp [b__law_same, seqS_eq]
    · rename_i xs ys
      obtain ⟨hl, hz, hk⟩ := h
      suffices q : ∃ d s, f__law_same (F (n + 1)) [.tup xs, .tup ys] st = some (d, s) ∧ d = .bl true ∧ s = st by
        obtain ⟨d, s, e, rfl, rfl⟩ := q
        exact e
      refine wp_run rfl ?_
      unfold b__law_same
      refine wp_seq (wp_if (t := true) (st1 := st) (by simp) (fun _ => ?_) (fun e => by cases e))
      refine wp_seq (wp_if (t := false) (st1 := st) (by simp) (fun e => by cases e) (fun _ => wp_skip ?_))
      refine wp_seq (wp_if (t := false) (st1 := st) (by simp [hl]) (fun e => by cases e) (fun _ => wp_skip ?_))
      refine wp_seq (wp_mono (same_loop (xs := xs) (ys := ys) hl hz (fun _ => rfl) (fun _ => rfl) rfl fun i x y e1 e2 => ih x y (hk i x y e1 e2)) ?_)
      rintro r s ⟨rfl, i0, rfl⟩
      exact wp_ret (d := .bl true) (by simp) ⟨rfl, rfl⟩
    · rename_i k l
      obtain ⟨xs, ys, g1, g2, hl, hz, hk⟩ := h
      suffices q : ∃ d s, f__law_same (F (n + 1)) [.loc k, .loc l] st = some (d, s) ∧ d = .bl true ∧ s = st by
        obtain ⟨d, s, e, rfl, rfl⟩ := q
        exact e
      refine wp_run rfl ?_
      unfold b__law_same
      refine wp_seq (wp_if (t := true) (st1 := st) (by simp [g1, g2]) (fun _ => ?_) (fun e => by cases e))
      refine wp_seq (wp_if (t := false) (st1 := st) (by simp [g1, g2]) (fun e => by cases e) (fun _ => wp_skip ?_))
      refine wp_seq (wp_if (t := false) (st1 := st) (by simp [g1, g2, hl]) (fun e => by cases e) (fun _ => wp_skip ?_))
      refine wp_seq (wp_mono (same_loop (xs := xs) (ys := ys) hl hz (fun _ => by simp [g1]) (fun _ => by simp [g2]) (by simp [g2]) fun i x y e1 e2 => ih x y (hk i x y e1 e2)) ?_)
      rintro r s ⟨rfl, i0, rfl⟩
      exact wp_ret (d := .bl true) (by simp) ⟨rfl, rfl⟩
end Lw

namespace Lw
open PySem L2 Iv
def DrawOk (φ : Fx) : Prop := ∀ (st : Sto) (b : Nat) (m : Int), Box st b → 0 < m → ∃ (v : Int) (st2 : Sto), φ [.loc b, .int m] st = some (.int v, st2) ∧ 0 ≤ v ∧ v < m ∧ Up b st st2 ∧ st2.length = st.length ∧ Box st2 b
end Lw

namespace Lw
open PySem L2 Iv
/-! ### texts by their codes -/
abbrev cs (x : Str) : List Nat := x.cps.toList
def mk (l : List Nat) : Str := ⟨l.toArray⟩
theorem cs_mk (l : List Nat) : cs (mk l) = l := rfl
theorem mk_cs (x : Str) : mk (cs x) = x := by cases x; rfl
theorem str_ext {x y : Str} (h : cs x = cs y) : x = y := by rw [← mk_cs x, ← mk_cs y, h]
theorem len_cs (x : Str) : x.length = (cs x).length := by simp [Str.length, cs]
theorem mk_len (l : List Nat) : (mk l).length = l.length := by rw [len_cs, cs_mk]
theorem mk_inj {l m : List Nat} : mk l = mk m ↔ l = m := ⟨fun h => by rw [← cs_mk l, h, cs_mk], fun h => by rw [h]⟩
theorem cs_app (x y : Str) : cs (x ++ y) = cs x ++ cs y := TL.tl_append x y
theorem mk_app (l m : List Nat) : mk l ++ mk m = mk (l ++ m) := str_ext (by rw [cs_app]; rfl)
def digL : List Nat := cs c_DIGITS_s where c_DIGITS_s : Str := "0123456789"
def letL : List Nat := cs c_s where c_s : Str := "abcdefghijklmnopqrstuvwxyz"
def sgnL : List Nat := cs c_s where c_s : Str := "+-*=<()"
def isD (c : Nat) : Bool := decide (c ∈ digL)
def isL (c : Nat) : Bool := decide (c ∈ letL)
def isW (c : Nat) : Bool := decide (c ∈ letL ++ digL)
def isS (c : Nat) : Bool := decide (c ∈ sgnL)
theorem dig_d : cs "0123456789" = digL := rfl
theorem let_d : cs "abcdefghijklmnopqrstuvwxyz" = letL := rfl
theorem sgn_d : cs "+-*=<()" = sgnL := rfl
theorem digL_eq : digL = [48, 49, 50, 51, 52, 53, 54, 55, 56, 57] := by decide +kernel
theorem letL_eq : letL = [97, 98, 99, 100, 101, 102, 103, 104, 105, 106, 107, 108, 109, 110, 111, 112, 113, 114, 115, 116, 117, 118, 119, 120, 121, 122] := by decide +kernel
theorem sgnL_eq : sgnL = [43, 45, 42, 61, 60, 40, 41] := by decide +kernel
theorem in_str (c : Nat) (x : Str) (st : Sto) : inO false (.str (mk [c])) (.str x) st = some (.bl (decide (c ∈ cs x)), st) := by
  have h := StrLaws.found_one x c
  simp only [inO]
  rw [show (mk [c]) = (⟨#[c]⟩ : Str) from rfl, h, Bool.bne_false]
theorem ix_str_at {x : Str} {i : Nat} {c : Nat} (hl : x.length ≤ LIM) (h : (cs x)[i]? = some c) (st : Sto) : ixO (.str x) (.int (i : Nat)) st = some (.str (mk [c]), st) := by
  rw [ixO_str, if_pos hl, atI_nat h]
  rfl
theorem space_eq (c : Nat) : decide (mk [c] = Str.ofString " ") = decide (c = 32) := by
  have e : Str.ofString " " = mk [32] := by decide +kernel
  rw [e]
  by_cases h : c = 32
  · subst h; simp
  · have h2 : ¬ mk [c] = mk [32] := fun q => h (by have := mk_inj.mp q; simpa using this)
    rw [decide_eq_false h, decide_eq_false h2]
theorem six_nat (n d k : Nat) (h : k ≤ n) : HT.sIx n d (some (k : Int)) = k := by rw [HT.sIx_nat]; omega
end Lw

namespace Lw
open PySem L2 Iv
theorem run_at_ok (x y : Str) (a : Nat) (st : Sto) (hl : x.length ≤ 50000) (ha : a ≤ x.length) : f__run_at [.str x, .int (a : Nat), .str y] st = some (.str (mk (((cs x).drop a).takeWhile fun c => decide (c ∈ cs y))), st) := by
  suffices q : ∃ d s, f__run_at [.str x, .int (a : Nat), .str y] st = some (d, s) ∧ d = .str (mk (((cs x).drop a).takeWhile fun c => decide (c ∈ cs y))) ∧ s = st by
    obtain ⟨d, s, e, rfl, rfl⟩ := q
    exact e
  have hL : x.length ≤ LIM := Nat.le_trans hl (by decide)
  have hlen := len_cs x
  refine wp_run rfl ?_
  unfold b__run_at
  refine wp_nx (σ1 := [some (.str x), some (.int (a : Nat)), some (.str y), some (.int (a : Nat))]) (st1 := st) (by simp) ?_
  refine wp_seq (wp_while (fun σ s => s = st ∧ ∃ e : Nat, a ≤ e ∧ e ≤ x.length ∧ σ = [some (.str x), some (.int (a : Nat)), some (.str y), some (.int (e : Nat))] ∧ ((cs x).drop a).takeWhile (fun c => decide (c ∈ cs y)) = ((cs x).drop a).take (e - a) ++ ((cs x).drop e).takeWhile fun c => decide (c ∈ cs y))
    (fun σ s => match σ with
      | [_, _, _, some (.int e)] => x.length - e.toNat
      | _ => 0) ⟨rfl, a, Nat.le_refl _, ha, rfl, by simp⟩ (by show x.length - ((a : Nat) : Int).toNat < 100000; omega) ?_)
  rintro σ s ⟨rfl, e, h1, h2, rfl, h3⟩
  have fin : ((cs x).drop e).takeWhile (fun c => decide (c ∈ cs y)) = [] → Wp (retS (slF cutO (varF 0) (someO (varF 1)) (someO (varF 3))) [some (.str x), some (.int (a : Nat)), some (.str y), some (.int (e : Nat))] s) fun r s' => match r with
      | .nx _ => (.non : D) = .str (mk (((cs x).drop a).takeWhile fun c => decide (c ∈ cs y))) ∧ s' = s
      | .ret d => d = .str (mk (((cs x).drop a).takeWhile fun c => decide (c ∈ cs y))) ∧ s' = s
      | _ => False := fun h0 => by
    refine wp_ret (d := .str (cutS x (some (a : Nat)) (some (e : Nat)))) (st1 := s) (by simp only [slF_eq, varF_eq, someO_eq, bnd_some, List.getElem?_cons_zero, List.getElem?_cons_succ, cutO_str, hL, if_true]) ⟨?_, rfl⟩
    rw [h3, h0, List.append_nil]
    unfold cutS
    rw [six_nat _ _ _ ha, six_nat _ _ _ h2]
    rfl
  by_cases hlt : e < x.length
  · obtain ⟨c, hc⟩ : ∃ c, (cs x)[e]? = some c := ⟨(cs x)[e]'(by omega), List.getElem?_eq_getElem _⟩
    have hd : (cs x).drop e = c :: (cs x).drop (e + 1) := by
      rw [List.drop_eq_getElem_cons (by omega)]
      congr 1
      exact (List.getElem?_eq_some_iff.mp hc).2
    have ix := ix_str_at hL hc
    refine ⟨decide (c ∈ cs y), s, ?_, fun ht => ?_, fun hf => ?_⟩
    · simp only [andT_eq, cmpT_eq, binF_eq, varF_eq, appF_eq, consF_eq, nilF_eq, bnd_some, List.getElem?_cons_zero, List.getElem?_cons_succ, lenO_str, hL, if_true, ltO_int, truth_bl, Option.map_some, ix, in_str]
      have : ((e : Nat) : Int) < (x.length : Int) := by omega
      simp [this]
    · refine wp_ok (r := .nx [some (.str x), some (.int (a : Nat)), some (.str y), some (.int ((e + 1 : Nat) : Int))]) (st := s) (by simp) ⟨⟨rfl, e + 1, by omega, hlt, rfl, ?_⟩, ?_⟩
      · rw [h3, hd, List.takeWhile_cons, ht, if_pos rfl]
        have ht2 : ((cs x).drop a).take (e + 1 - a) = ((cs x).drop a).take (e - a) ++ [c] := by
          have e1 : e + 1 - a = (e - a) + 1 := by omega
          rw [e1, List.take_add_one, List.getElem?_drop, show a + (e - a) = e by omega, hc]
          rfl
        rw [ht2, List.append_assoc]
        rfl
      · show x.length - ((e + 1 : Nat) : Int).toNat < x.length - ((e : Nat) : Int).toNat
        omega
    · exact fin (by rw [hd, List.takeWhile_cons, hf]; rfl)
  · refine ⟨false, s, ?_, (fun h => by cases h), fun _ => fin ?_⟩
    · simp only [andT_eq, cmpT_eq, binF_eq, varF_eq, appF_eq, consF_eq, nilF_eq, bnd_some, List.getElem?_cons_zero, List.getElem?_cons_succ, lenO_str, hL, if_true, ltO_int, truth_bl, Option.map_some]
      have : ¬ ((e : Nat) : Int) < (x.length : Int) := by omega
      simp [this]
    · rw [List.drop_eq_nil_of_le (by omega)]; rfl
end Lw

namespace Lw
open PySem L2 Iv
/-! ### the tokens of a line, by codes -/
def numOk (l : List Nat) : Bool := decide (l.length = 1) || (decide (l.length = 2) && !decide (l.head? = some 48))
/-- the first token of a row of codes that begins with c -/
def tokAt (c : Nat) (r : List Nat) : Str × List Nat :=
  if isD c = true then (if numOk ((c :: r).takeWhile isD) = true then "number" else "bad", (c :: r).takeWhile isD)
  else if isL c = true then (if ((c :: r).takeWhile isW).length ≤ 8 then "word" else "bad", (c :: r).takeWhile isW)
  else (if isS c = true then "sign" else "bad", [c])
def tokD (t : Str × List Nat) : D := .tup [.str t.1, .str (mk t.2)]
theorem isW_of_L {c : Nat} (h : isL c = true) : isW c = true := by
  unfold isL at h; unfold isW
  simp only [decide_eq_true_eq, List.mem_append] at h ⊢
  exact .inl h
theorem tokAt_ne (c : Nat) (r : List Nat) : ∃ m, (tokAt c r).2 = c :: m ∧ m.length ≤ r.length := by
  unfold tokAt
  by_cases h1 : isD c = true
  · rw [if_pos h1]
    exact ⟨r.takeWhile isD, by simp [List.takeWhile_cons, h1], (List.takeWhile_sublist _).length_le⟩
  · rw [if_neg h1]
    by_cases h2 : isL c = true
    · rw [if_pos h2]
      exact ⟨r.takeWhile isW, by simp [List.takeWhile_cons, isW_of_L h2], (List.takeWhile_sublist _).length_le⟩
    · rw [if_neg h2]
      exact ⟨[], rfl, Nat.zero_le _⟩
def tkF : Nat → List Nat → List (Str × List Nat)
  | 0, _ => []
  | _, [] => []
  | n + 1, c :: r => if c = 32 then tkF n r else tokAt c r :: tkF n ((c :: r).drop (tokAt c r).2.length)
theorem tkF_fuel : ∀ (n m : Nat) (l : List Nat), l.length ≤ n → l.length ≤ m → tkF n l = tkF m l
  | 0, m, l, h, _ => by
    have : l = [] := List.length_eq_zero_iff.mp (Nat.le_zero.mp h)
    subst this
    cases m <;> rfl
  | n + 1, 0, l, _, h => by
    have : l = [] := List.length_eq_zero_iff.mp (Nat.le_zero.mp h)
    subst this
    rfl
  | n + 1, m + 1, [], _, _ => rfl
  | n + 1, m + 1, c :: r, h1, h2 => by
    simp only [tkF]
    simp only [List.length_cons] at h1 h2
    obtain ⟨w, e, hw⟩ := tokAt_ne c r
    rw [tkF_fuel n m r (by omega) (by omega), tkF_fuel n m _ (by rw [List.length_drop, e]; simp; omega) (by rw [List.length_drop, e]; simp; omega)]
def tk (l : List Nat) : List (Str × List Nat) := tkF l.length l
theorem tk_nil : tk [] = [] := rfl
theorem tk_space (r : List Nat) : tk (32 :: r) = tk r := by
  show tkF (r.length + 1) (32 :: r) = _
  simp [tkF, tk]
theorem tk_cons {c : Nat} (r : List Nat) (h : c ≠ 32) : tk (c :: r) = tokAt c r :: tk ((c :: r).drop (tokAt c r).2.length) := by
  show tkF (r.length + 1) (c :: r) = _
  simp only [tkF, if_neg h]
  obtain ⟨w, e, hw⟩ := tokAt_ne c r
  congr 1
  exact tkF_fuel _ _ _ (by rw [List.length_drop, e]; simp) (Nat.le_refl _)
theorem is_number_ok (l : List Nat) (hne : l ≠ []) (hl : l.length ≤ 50000) (st : Sto) : f__is_number [.str (mk l)] st = some (.bl (numOk l), st) := by
  refine run_ret rfl ?_
  have hL : (mk l).length ≤ LIM := by rw [mk_len]; exact Nat.le_trans hl (by decide)
  obtain ⟨c, r, rfl⟩ : ∃ c r, l = c :: r := by
    cases l with
    | nil => exact absurd rfl hne
    | cons c r => exact ⟨c, r, rfl⟩
  have ix := ix_str_at (i := 0) hL (show (cs (mk (c :: r)))[0]? = some c from rfl) st
  have hlen : ((mk (c :: r)).length : Int) = ((r.length + 1 : Nat) : Int) := by rw [mk_len, List.length_cons]
  have z0 : decide (mk [c] = Str.ofString "0") = decide (c = 48) := by
    have e : Str.ofString "0" = mk [48] := by decide +kernel
    rw [e]
    by_cases h : c = 48
    · subst h; simp
    · have h2 : ¬ mk [c] = mk [48] := fun q => h (by have := mk_inj.mp q; simpa using this)
      rw [decide_eq_false h, decide_eq_false h2]
  have ix' : ixO (.str (mk (c :: r))) (.int 0) st = some (.str (mk [c]), st) := ix
  unfold b__is_number numOk
  simp only [retS_eq, orF_eq, andF_eq, binF_eq, appF_eq, consF_eq, nilF_eq, varF_eq, cstF_eq, bnd_some, List.map_cons, List.map_nil, List.cons_append, List.getElem?_cons_zero, lenO_str, hL, if_true, eqO_int, truth_bl, Option.bind_some, ix', eqO_str, z0, hlen, List.length_cons, List.head?_cons]
  by_cases h1 : r.length = 0
  · simp [h1]
  · by_cases h2 : r.length = 1
    · by_cases h3 : c = 48
      · simp [h2, h3]
      · simp [h2, h3]
    · have a1 : ¬ ((r.length + 1 : Nat) : Int) = 1 := by omega
      have a2 : ¬ ((r.length + 1 : Nat) : Int) = 2 := by omega
      have a3 : ¬ r.length + 1 = 1 := by omega
      have a4 : ¬ r.length + 1 = 2 := by omega
      rw [decide_eq_false a1, decide_eq_false a2, decide_eq_false a3, decide_eq_false a4]
      rfl
theorem token_at_ok {pr pn : Fx} (hr : ∀ (x y : Str) (a : Nat) (st : Sto), x.length ≤ 50000 → a ≤ x.length → pr [.str x, .int (a : Nat), .str y] st = some (.str (mk (((cs x).drop a).takeWhile fun c => decide (c ∈ cs y))), st))
    (hn : ∀ (l : List Nat), l ≠ [] → l.length ≤ 50000 → ∀ st : Sto, pn [.str (mk l)] st = some (.bl (numOk l), st)) (x : Str) (a : Nat) (c : Nat) (r : List Nat) (hl : x.length ≤ 50000) (hd : (cs x).drop a = c :: r) (st : Sto) :
    f__token_at pr pn [.str x, .int (a : Nat)] st = some (tokD (tokAt c r), st) := by
  have hL : x.length ≤ LIM := Nat.le_trans hl (by decide)
  have hlen := len_cs x
  have ha : a < (cs x).length := by
    have h1 := congrArg List.length hd
    rw [List.length_drop, List.length_cons] at h1
    omega
  have hc : (cs x)[a]? = some c := by
    have e := List.drop_eq_getElem_cons ha
    rw [hd] at e
    injection e with e1 _
    rw [List.getElem?_eq_getElem ha, ← e1]
  have ix := ix_str_at hL hc
  have rl : r.length ≤ 50000 := by
    have h1 := congrArg List.length hd
    rw [List.length_drop, List.length_cons] at h1
    omega
  have L2' : (2 : Nat) ≤ LIM := by decide
  suffices q : ∃ d s, f__token_at pr pn [.str x, .int (a : Nat)] st = some (d, s) ∧ d = tokD (tokAt c r) ∧ s = st by
    obtain ⟨d, s, e, rfl, rfl⟩ := q
    exact e
  have inD : inO false (.str (mk [c])) c_DIGITS st = some (.bl (isD c), st) := in_str c "0123456789" st
  have inL : inO false (.str (mk [c])) c_LETTERS st = some (.bl (isL c), st) := in_str c "abcdefghijklmnopqrstuvwxyz" st
  have inS : inO false (.str (mk [c])) c_SIGNS st = some (.bl (isS c), st) := in_str c "+-*=<()" st
  refine wp_run rfl ?_
  unfold b__token_at
  by_cases h1 : isD c = true
  · refine wp_seq (wp_if (t := true) (st1 := st) (by simp only [cmpT_eq, binF_eq, varF_eq, cstF_eq, bnd_some, List.map_cons, List.map_nil, List.cons_append, List.getElem?_cons_zero, List.getElem?_cons_succ, ix, inD, truth_bl, Option.map_some, h1]) (fun _ => ?_) (fun e => by cases e))
    have e1 : pr [.str x, .int (a : Nat), c_DIGITS] st = some (.str (mk ((c :: r).takeWhile isD)), st) := by
      have := hr x "0123456789" a st hl (by omega)
      rw [hd] at this
      exact this
    refine wp_nx (σ1 := [some (.str x), some (.int (a : Nat)), some (.str (mk ((c :: r).takeWhile isD)))]) (st1 := st) (by simp [e1]) ?_
    have hne : (c :: r).takeWhile isD ≠ [] := by rw [List.takeWhile_cons, h1, if_pos rfl]; simp
    have hz : ((c :: r).takeWhile isD).length ≤ 50000 := Nat.le_trans (List.takeWhile_sublist _).length_le (by have := congrArg List.length hd; rw [List.length_drop] at this; omega)
    refine wp_ret (d := .tup [.str (if numOk ((c :: r).takeWhile isD) = true then "number" else "bad"), .str (mk ((c :: r).takeWhile isD))]) (st1 := st) ?_ ⟨by unfold tokAt tokD; rw [if_pos h1], rfl⟩
    by_cases h2 : numOk ((c :: r).takeWhile isD) = true
    · simp [hn _ hne hz, h2, LIM]
    · simp [hn _ hne hz, h2, LIM]
  · have h1' : isD c = false := by simpa using h1
    refine wp_seq (wp_if (t := false) (st1 := st) (by simp only [cmpT_eq, binF_eq, varF_eq, cstF_eq, bnd_some, List.map_cons, List.map_nil, List.cons_append, List.getElem?_cons_zero, List.getElem?_cons_succ, ix, inD, truth_bl, Option.map_some, h1']) (fun e => by cases e) (fun _ => wp_skip ?_))
    by_cases h2 : isL c = true
    · refine wp_seq (wp_if (t := true) (st1 := st) (by simp only [cmpT_eq, binF_eq, varF_eq, cstF_eq, bnd_some, List.map_cons, List.map_nil, List.cons_append, List.getElem?_cons_zero, List.getElem?_cons_succ, ix, inL, truth_bl, Option.map_some, h2]) (fun _ => ?_) (fun e => by cases e))
      have cat : addO c_LETTERS c_DIGITS st = some (.str (("abcdefghijklmnopqrstuvwxyz" : Str) ++ ("0123456789" : Str)), st) := by
        have : (Str.ofString "abcdefghijklmnopqrstuvwxyz").length + (Str.ofString "0123456789").length ≤ LIM := by decide +kernel
        exact (addO_str).trans (if_pos this)
      have e1 : pr [.str x, .int (a : Nat), .str (("abcdefghijklmnopqrstuvwxyz" : Str) ++ ("0123456789" : Str))] st = some (.str (mk ((c :: r).takeWhile isW)), st) := by
        have := hr x (("abcdefghijklmnopqrstuvwxyz" : Str) ++ ("0123456789" : Str)) a st hl (by omega)
        rw [hd, cs_app] at this
        exact this
      refine wp_nx (σ1 := [some (.str x), some (.int (a : Nat)), some (.str (mk ((c :: r).takeWhile isW)))]) (st1 := st) (by simp [cat, e1]) ?_
      have hz : ((c :: r).takeWhile isW).length ≤ 50000 := Nat.le_trans (List.takeWhile_sublist _).length_le (by have := congrArg List.length hd; rw [List.length_drop] at this; omega)
      have hz2 : (mk ((c :: r).takeWhile isW)).length ≤ LIM := by rw [mk_len]; exact Nat.le_trans hz (by decide)
      refine wp_ret (d := .tup [.str (if ((c :: r).takeWhile isW).length ≤ 8 then "word" else "bad"), .str (mk ((c :: r).takeWhile isW))]) (st1 := st) ?_ ⟨by unfold tokAt tokD; rw [if_neg h1, if_pos h2], rfl⟩
      have cmp : leO (.int (mk ((c :: r).takeWhile isW)).length) c_LONGEST_WORD st = some (.bl (decide (((c :: r).takeWhile isW).length ≤ 8)), st) := by
        rw [mk_len]
        show leO (.int _) (.int 8) st = _
        rw [leO_int]
        by_cases h : ((c :: r).takeWhile isW).length ≤ 8
        · have h' : (((c :: r).takeWhile isW).length : Int) ≤ 8 := by omega
          rw [decide_eq_true h, decide_eq_true h']
        · have h' : ¬ (((c :: r).takeWhile isW).length : Int) ≤ 8 := by omega
          rw [decide_eq_false h, decide_eq_false h']
      by_cases h3 : ((c :: r).takeWhile isW).length ≤ 8
      · simp only [tupF_eq, consF_eq, nilF_eq, ifF_eq, cmpT_eq, binF_eq, appF_eq, varF_eq, cstF_eq, bnd_some, List.getElem?_cons_zero, List.getElem?_cons_succ, lenO_str, hz2, if_true, cmp, truth_bl, Option.map_some, decide_eq_true h3, List.length_cons, List.length_nil, Nat.zero_add, L2', if_pos h3]
      · simp only [tupF_eq, consF_eq, nilF_eq, ifF_eq, cmpT_eq, binF_eq, appF_eq, varF_eq, cstF_eq, bnd_some, List.getElem?_cons_zero, List.getElem?_cons_succ, lenO_str, hz2, if_true, cmp, truth_bl, Option.map_some, decide_eq_false h3, List.length_cons, List.length_nil, Nat.zero_add, L2', if_neg h3, Bool.false_eq_true, if_false]
    · have h2' : isL c = false := by simpa using h2
      refine wp_seq (wp_if (t := false) (st1 := st) (by simp only [cmpT_eq, binF_eq, varF_eq, cstF_eq, bnd_some, List.map_cons, List.map_nil, List.cons_append, List.getElem?_cons_zero, List.getElem?_cons_succ, ix, inL, truth_bl, Option.map_some, h2']) (fun e => by cases e) (fun _ => wp_skip ?_))
      refine wp_ret (d := .tup [.str (if isS c = true then "sign" else "bad"), .str (mk [c])]) (st1 := st) ?_ ⟨by unfold tokAt tokD; rw [if_neg h1, if_neg h2], rfl⟩
      by_cases h3 : isS c = true
      · simp only [tupF_eq, consF_eq, nilF_eq, ifF_eq, cmpT_eq, binF_eq, varF_eq, cstF_eq, bnd_some, List.map_cons, List.map_nil, List.cons_append, List.getElem?_cons_zero, List.getElem?_cons_succ, ix, inS, truth_bl, Option.map_some, h3, if_true, List.length_cons, List.length_nil, Nat.zero_add, L2']
      · have h3' : isS c = false := by simpa using h3
        simp only [tupF_eq, consF_eq, nilF_eq, ifF_eq, cmpT_eq, binF_eq, varF_eq, cstF_eq, bnd_some, List.map_cons, List.map_nil, List.cons_append, List.getElem?_cons_zero, List.getElem?_cons_succ, ix, inS, truth_bl, Option.map_some, h3', if_true, List.length_cons, List.length_nil, Nat.zero_add, L2', Bool.false_eq_true, if_false]
theorem tokens_ok {pt : Fx} (hp : ∀ (x : Str) (a : Nat) (c : Nat) (r : List Nat), x.length ≤ 50000 → (cs x).drop a = c :: r → ∀ st : Sto, pt [.str x, .int (a : Nat)] st = some (tokD (tokAt c r), st)) (x : Str) (hl : x.length ≤ 50000) (st : Sto) :
    f_tokens pt [.str x] st = some (.loc st.length, st ++ [.lst ((tk (cs x)).map tokD)]) := by
  suffices q : ∃ d s, f_tokens pt [.str x] st = some (d, s) ∧ d = .loc st.length ∧ s = st ++ [.lst ((tk (cs x)).map tokD)] by
    obtain ⟨d, s, e, rfl, rfl⟩ := q
    exact e
  have hL : x.length ≤ LIM := Nat.le_trans hl (by decide)
  have hlen := len_cs x
  have gm : ∀ xs, getM (st ++ [.lst xs]) st.length = some xs := fun xs => getM_of (by simp)
  have gl : ∀ xs, getL (st ++ [.lst xs]) st.length = some xs := fun xs => getL_of (by simp)
  have ss : ∀ xs ys, (st ++ [OB.lst xs]).set st.length (.lst ys) = st ++ [.lst ys] := fun xs ys => by simp
  refine wp_run rfl ?_
  unfold b_tokens
  refine wp_nx (σ1 := [some (.str x), some (.loc st.length), none, none]) (st1 := st ++ [.lst []]) (by simp) ?_
  refine wp_nx (σ1 := [some (.str x), some (.loc st.length), some (.int ((0 : Nat) : Int)), none]) (st1 := st ++ [.lst []]) (by simp) ?_
  refine wp_seq (wp_while (fun σ s => ∃ (a : Nat) (done : List (Str × List Nat)) (x3 : Option D), a ≤ x.length ∧ done.length ≤ a ∧ s = st ++ [.lst (done.map tokD)] ∧ σ = [some (.str x), some (.loc st.length), some (.int (a : Nat)), x3] ∧ tk (cs x) = done ++ tk ((cs x).drop a))
    (fun σ s => match σ with
      | [_, _, some (.int e), _] => x.length - e.toNat
      | _ => 0) ⟨0, [], none, Nat.zero_le _, Nat.le_refl _, rfl, rfl, rfl⟩ (by show x.length - ((0 : Nat) : Int).toNat < 100000; omega) ?_)
  rintro σ s ⟨a, done, x3, h1, h2, rfl, rfl, h3⟩
  by_cases hlt : a < x.length
  · refine ⟨true, st ++ [.lst (done.map tokD)], ?_, fun _ => ?_, (fun h => by cases h)⟩
    · have : ((a : Nat) : Int) < (x.length : Int) := by omega
      simp only [cmpT_eq, binF_eq, varF_eq, appF_eq, consF_eq, nilF_eq, bnd_some, List.getElem?_cons_zero, List.getElem?_cons_succ, lenO_str, hL, if_true, ltO_int, truth_bl, Option.map_some, this, decide_true]
    · obtain ⟨c, hc⟩ : ∃ c, (cs x)[a]? = some c := ⟨(cs x)[a]'(by omega), List.getElem?_eq_getElem _⟩
      have hd : (cs x).drop a = c :: (cs x).drop (a + 1) := by
        rw [List.drop_eq_getElem_cons (by omega)]
        congr 1
        exact (List.getElem?_eq_some_iff.mp hc).2
      have ix := ix_str_at hL hc
      refine wp_if (t := decide (c = 32)) (st1 := st ++ [.lst (done.map tokD)]) ?_ (fun h => ?_) (fun h => ?_)
      · simp only [cmpT_eq, binF_eq, varF_eq, cstF_eq, bnd_some, List.getElem?_cons_zero, List.getElem?_cons_succ, ix, eqO_str, space_eq, truth_bl, Option.map_some, Bool.bne_false]
      · have hc32 : c = 32 := of_decide_eq_true h
        subst hc32
        refine wp_ok (r := .nx [some (.str x), some (.loc st.length), some (.int ((a + 1 : Nat) : Int)), x3]) (st := st ++ [.lst (done.map tokD)]) (by simp) ⟨⟨a + 1, done, x3, hlt, by omega, rfl, rfl, by rw [h3, hd, tk_space]⟩, ?_⟩
        show x.length - ((a + 1 : Nat) : Int).toNat < x.length - ((a : Nat) : Int).toNat
        omega
      · have hc32 : ¬ c = 32 := of_decide_eq_false h
        have et := hp x a c _ hl hd (st ++ [.lst (done.map tokD)])
        refine wp_nx (σ1 := [some (.str x), some (.loc st.length), some (.int (a : Nat)), some (tokD (tokAt c ((cs x).drop (a + 1))))]) (st1 := st ++ [.lst (done.map tokD)]) (by simp [et]) ?_
        obtain ⟨w, ew, hw⟩ := tokAt_ne c ((cs x).drop (a + 1))
        rw [List.length_drop] at hw
        have hdl : (done.map tokD).length < LIM := by rw [List.length_map]; show done.length < 1000000; omega
        refine wp_nx (σ1 := [some (.str x), some (.loc st.length), some (.int (a : Nat)), some (tokD (tokAt c ((cs x).drop (a + 1))))]) (st1 := st ++ [.lst ((done ++ [tokAt c ((cs x).drop (a + 1))]).map tokD)]) ?_ ?_
        · simp only [exS_eq, bmF_eq, varF_eq, bnd_some, List.getElem?_cons_zero, List.getElem?_cons_succ, isTy_list, gl, Option.isSome_some, if_true, consF_eq, nilF_eq, appendO_eq, gm, hdl, ss, List.map_append, List.map_cons, List.map_nil]
        · have i1 : ∀ (u v : D), atI [u, v] 1 = some v := fun _ _ => rfl
          have hz : (mk (tokAt c ((cs x).drop (a + 1))).2).length ≤ LIM := by rw [mk_len, ew, List.length_cons]; show w.length + 1 ≤ 1000000; omega
          have hn : ((a : Nat) : Int) + ((mk (tokAt c ((cs x).drop (a + 1))).2).length : Int) = ((a + (w.length + 1) : Nat) : Int) := by rw [mk_len, ew, List.length_cons]; omega
          refine wp_ok (r := .nx [some (.str x), some (.loc st.length), some (.int ((a + (w.length + 1) : Nat) : Int)), some (tokD (tokAt c ((cs x).drop (a + 1))))]) (st := st ++ [.lst ((done ++ [tokAt c ((cs x).drop (a + 1))]).map tokD)]) ?_ ⟨⟨a + (w.length + 1), _, _, by omega, by rw [List.length_append, List.length_singleton]; omega, rfl, rfl, ?_⟩, ?_⟩
          · simp only [augS_eq, appF_eq, consF_eq, nilF_eq, binF_eq, varF_eq, cstF_eq, bnd_some, List.getElem?_cons_zero, List.getElem?_cons_succ, tokD, ixO_tup, i1, Option.map_some, lenO_str, hz, if_true, iaddO_int, hn, List.set_cons_succ, List.set_cons_zero]
          · rw [h3, hd, tk_cons _ hc32, List.append_assoc, List.singleton_append]
            congr 2
            rw [ew, List.length_cons, ← hd, List.drop_drop]
          · show x.length - ((a + (w.length + 1) : Nat) : Int).toNat < x.length - ((a : Nat) : Int).toNat
            omega
  · refine ⟨false, st ++ [.lst (done.map tokD)], ?_, (fun h => by cases h), fun _ => ?_⟩
    · have : ¬ ((a : Nat) : Int) < (x.length : Int) := by omega
      simp only [cmpT_eq, binF_eq, varF_eq, appF_eq, consF_eq, nilF_eq, bnd_some, List.getElem?_cons_zero, List.getElem?_cons_succ, lenO_str, hL, if_true, ltO_int, truth_bl, Option.map_some, this, decide_false]
    · refine wp_ret (d := .loc st.length) (st1 := st ++ [.lst (done.map tokD)]) (by simp) ⟨rfl, ?_⟩
      rw [h3, List.drop_eq_nil_of_le (by omega), tk_nil, List.append_nil]
end Lw

namespace Lw
open PySem L2 Iv
/-! ### equality of lists of tokens -/
def tD (t : Str × List Nat) : PyData := .tuple [.str t.1, .str (mk t.2)]
def okT (ts : List (Str × List Nat)) : Prop := ∀ t ∈ ts, PyData.strOk t.1 = true ∧ PyData.strOk (mk t.2) = true
theorem tD_lay (t : Str × List Nat) (h : PyData.strOk t.1 = true ∧ PyData.strOk (mk t.2) = true) : (tD t).canLay0 = true := by simp [tD, PyData.canLay0, PyData.canLayAll0, h.1, h.2]
theorem tD_depth (t : Str × List Nat) : (tD t).depth = 1 := by simp [tD, PyData.depth, PyData.depthAll]
theorem tDs_lay : ∀ ts : List (Str × List Nat), okT ts → PyData.canLayAll0 (ts.map tD) = true
  | [], _ => by simp [PyData.canLayAll0]
  | t :: ts, h => by
    have h1 := tD_lay t (h t List.mem_cons_self)
    have h2 := tDs_lay ts fun u hu => h u (List.mem_cons_of_mem _ hu)
    simp [PyData.canLayAll0, h1, h2]
theorem tDs_depth : ∀ ts : List (Str × List Nat), PyData.depthAll (ts.map tD) ≤ 1
  | [] => by simp [PyData.depthAll]
  | t :: ts => by
    have h1 := tDs_depth ts
    have h2 := tD_depth t
    simp only [List.map_cons, PyData.depthAll]
    omega
theorem tDs_shaped (ts : List (Str × List Nat)) (h : okT ts) : SeqAt.shaped (.list (ts.map tD)) = true := by
  have h1 := tDs_depth ts
  unfold SeqAt.shaped
  rw [Bool.and_eq_true]
  refine ⟨?_, decide_eq_true ?_⟩
  · simp only [PyData.canLay0]; exact tDs_lay ts h
  · simp only [PyData.depth]; omega
theorem tD_eqv (t u : Str × List Nat) : PyData.eqv (tD t) (tD u) = decide (t = u) := by
  obtain ⟨a, b⟩ := t
  obtain ⟨c, d⟩ := u
  simp only [tD, PyData.eqv, PyData.eqvAll, Bool.and_true]
  by_cases h : (a, b) = (c, d)
  · cases h; simp
  · rw [decide_eq_false h]
    by_cases h1 : a = c
    · subst h1
      have h2 : ¬ mk b = mk d := fun e => h (by rw [mk_inj.mp e])
      rw [beq_eq_false_iff_ne.mpr h2, Bool.and_false]
    · rw [beq_eq_false_iff_ne.mpr h1, Bool.false_and]
theorem tDs_eqv : ∀ (ts us : List (Str × List Nat)), PyData.eqvAll (ts.map tD) (us.map tD) = decide (ts = us)
  | [], [] => by simp [PyData.eqvAll]
  | [], _ :: _ => by simp [PyData.eqvAll]
  | _ :: _, [] => by simp [PyData.eqvAll]
  | t :: ts, u :: us => by
    simp only [List.map_cons, PyData.eqvAll, tD_eqv, tDs_eqv ts us]
    by_cases h1 : t = u
    · by_cases h2 : ts = us <;> simp [h1, h2]
    · simp [h1]
theorem py_tok (st : Sto) (n : Nat) (t : Str × List Nat) : py st n (tokD t) = some (tD t) := by
  simp only [tokD, py, pys, Option.map_some, tD]
theorem pys_tok (st : Sto) (n : Nat) : ∀ ts : List (Str × List Nat), pys st n (ts.map tokD) = some (ts.map tD)
  | [] => by simp only [List.map_nil, pys]
  | t :: ts => by simp only [List.map_cons, pys, py_tok, pys_tok st n ts]
theorem eq_toks {st : Sto} {k l : Nat} {ts us : List (Str × List Nat)} (h1 : getL st k = some (ts.map tokD)) (h2 : getL st l = some (us.map tokD)) (o1 : okT ts) (o2 : okT us) (neg : Bool) : eqO neg (.loc k) (.loc l) st = some (.bl (decide (ts = us) != neg), st) := by
  have p1 : py st 60 (.loc k) = some (.list (ts.map tD)) := by simp only [py, h1, pys_tok, Option.map_some]
  have p2 : py st 60 (.loc l) = some (.list (us.map tD)) := by simp only [py, h2, pys_tok, Option.map_some]
  unfold eqO
  simp only [eqS, p1, p2, tDs_shaped ts o1, tDs_shaped us o2, and_self, if_true, PyData.eqv, tDs_eqv]
/-! ### names -/
def nameB (l : List Nat) : Bool := match l with
  | [] => false
  | c :: r => isL c && (c :: r).all isW && decide ((c :: r).length ≤ 8)
theorem tk_sub : ∀ (n : Nat) (l : List Nat) (t : Str × List Nat), t ∈ tkF n l → PyData.strOk t.1 = true ∧ ∀ c ∈ t.2, c ∈ l
  | 0, l, t, h => by cases h
  | n + 1, [], t, h => by cases h
  | n + 1, c :: r, t, h => by
    simp only [tkF] at h
    split at h
    · obtain ⟨h1, h2⟩ := tk_sub n r t h
      exact ⟨h1, fun d hd => List.mem_cons_of_mem _ (h2 d hd)⟩
    · rcases List.mem_cons.mp h with h | h
      · rw [h]
        unfold tokAt
        by_cases h1 : isD c = true
        · rw [if_pos h1]
          refine ⟨?_, fun d hd => (List.takeWhile_sublist _).subset hd⟩
          by_cases h2 : numOk ((c :: r).takeWhile isD) = true
          · simp only [h2, if_true]; decide +kernel
          · simp only [h2, if_false]; decide +kernel
        · rw [if_neg h1]
          by_cases h2 : isL c = true
          · rw [if_pos h2]
            refine ⟨?_, fun d hd => (List.takeWhile_sublist _).subset hd⟩
            by_cases h3 : ((c :: r).takeWhile isW).length ≤ 8
            · simp only [h3, if_true]; decide +kernel
            · simp only [h3, if_false]; decide +kernel
          · rw [if_neg h2]
            refine ⟨?_, fun d hd => by rw [List.mem_singleton.mp hd]; exact List.mem_cons_self⟩
            by_cases h3 : isS c = true
            · simp only [h3, if_true]; decide +kernel
            · simp only [h3, if_false]; decide +kernel
      · obtain ⟨h1, h2⟩ := tk_sub n _ t h
        exact ⟨h1, fun d hd => List.mem_of_mem_drop (h2 d hd)⟩
def okS (x : Str) : Prop := ∀ c ∈ cs x, c < 0x110000
theorem strOk_mk {l : List Nat} (h : ∀ c ∈ l, c < 0x110000) : PyData.strOk (mk l) = true := by
  unfold PyData.strOk mk
  rw [Array.all_eq_true]
  intro i hi
  exact decide_eq_true (h _ (by simp))
theorem ok_tk {x : Str} (h : okS x) : okT (tk (cs x)) := fun t ht => by
  obtain ⟨h1, h2⟩ := tk_sub _ _ t ht
  exact ⟨h1, strOk_mk fun c hc => h c (h2 c hc)⟩
theorem tk_len : ∀ (n : Nat) (l : List Nat) (t : Str × List Nat), t ∈ tkF n l → t.2.length ≤ l.length
  | 0, l, t, h => by cases h
  | n + 1, [], t, h => by cases h
  | n + 1, c :: r, t, h => by
    simp only [tkF] at h
    split at h
    · have := tk_len n r t h
      simp; omega
    · obtain ⟨w, e, hw⟩ := tokAt_ne c r
      rcases List.mem_cons.mp h with h | h
      · rw [h, e]; simp; exact hw
      · have := tk_len n _ t h
        rw [List.length_drop] at this
        omega
theorem notD_of_L {c : Nat} (h : isL c = true) : isD c = false := by
  unfold isL at h; unfold isD
  rw [letL_eq] at h
  rw [digL_eq]
  simp only [decide_eq_true_eq, List.mem_cons, List.not_mem_nil, or_false] at h
  apply decide_eq_false
  simp only [List.mem_cons, List.not_mem_nil, or_false]
  omega
theorem ns_of_L {c : Nat} (h : isL c = true) : c ≠ 32 := by
  unfold isL at h
  rw [letL_eq] at h
  simp only [decide_eq_true_eq, List.mem_cons, List.not_mem_nil, or_false] at h
  omega
theorem tw_all {p : Nat → Bool} : ∀ {l : List Nat}, l.all p = true → l.takeWhile p = l
  | [], _ => rfl
  | c :: r, h => by
    simp only [List.all_cons, Bool.and_eq_true] at h
    rw [List.takeWhile_cons, h.1, if_pos rfl, tw_all h.2]
theorem all_tw {p : Nat → Bool} : ∀ {l : List Nat}, l.takeWhile p = l → l.all p = true
  | [], _ => rfl
  | c :: r, h => by
    rw [List.takeWhile_cons] at h
    by_cases hc : p c = true
    · rw [if_pos hc] at h
      injection h with _ h2
      simp [hc, all_tw h2]
    · rw [if_neg hc] at h
      cases h
theorem tk_name (l : List Nat) : decide (tk l = [((("word" : Str), l) : Str × List Nat)]) = nameB l := by
  cases l with
  | nil => simp [tk_nil, nameB]
  | cons c r =>
    by_cases h : nameB (c :: r) = true
    · rw [h]
      apply decide_eq_true
      simp only [nameB, Bool.and_eq_true, decide_eq_true_eq] at h
      obtain ⟨⟨h1, h2⟩, h3⟩ := h
      rw [tk_cons r (ns_of_L h1)]
      have e : tokAt c r = ((("word" : Str), c :: r) : Str × List Nat) := by
        unfold tokAt
        rw [if_neg (by rw [notD_of_L h1]; simp), if_pos h1, tw_all h2, if_pos h3]
      rw [e, List.drop_length, tk_nil]
    · have hf : nameB (c :: r) = false := by simpa using h
      rw [hf]
      apply decide_eq_false
      intro e
      by_cases hc : c = 32
      · subst hc
        rw [tk_space] at e
        have hm : ((("word" : Str), 32 :: r) : Str × List Nat) ∈ tk r := by rw [e]; exact List.mem_singleton.mpr rfl
        have := tk_len _ _ _ hm
        simp at this
        omega
      · rw [tk_cons r hc] at e
        injection e with e1 _
        apply h
        unfold tokAt at e1
        by_cases h1 : isD c = true
        · rw [if_pos h1] at e1
          have e2 := congrArg Prod.fst e1
          by_cases h2 : numOk ((c :: r).takeWhile isD) = true
          · simp [h2, ofs_inj] at e2
          · simp [h2, ofs_inj] at e2
        · rw [if_neg h1] at e1
          by_cases h2 : isL c = true
          · rw [if_pos h2] at e1
            have e2 := congrArg Prod.fst e1
            have e3 := congrArg Prod.snd e1
            simp only at e2 e3
            by_cases h3 : ((c :: r).takeWhile isW).length ≤ 8
            · rw [e3] at h3
              simp only [nameB, h2, Bool.true_and, Bool.and_eq_true, decide_eq_true_eq]
              exact ⟨all_tw e3, h3⟩
            · rw [if_neg h3] at e2
              simp [ofs_inj] at e2
          · rw [if_neg h2] at e1
            have e2 := congrArg Prod.fst e1
            by_cases h3 : isS c = true
            · simp [h3, ofs_inj] at e2
            · simp [h3, ofs_inj] at e2
def resL : List D := [.str "var", .str "lock", .str "cond", .str "of", .str "queue", .str "thread", .str "let", .str "get", .str "put", .str "add", .str "unlock", .str "wait", .str "notify", .str "all", .str "send", .str "take", .str "check", .str "go", .str "if", .str "begin", .str "end", .str "stop", .str "and", .str "or", .str "not"]
def regL : List D := [.str "a", .str "b", .str "c", .str "d"]
def okName (x : Str) : Bool := nameB (cs x) && !inF (.str x) regL && !inF (.str x) resL
theorem is_name_ok {pt : Fx} (hp : ∀ (x : Str) (st : Sto), x.length ≤ 50000 → pt [.str x] st = some (.loc st.length, st ++ [.lst ((tk (cs x)).map tokD)])) (x : Str) (hl : x.length ≤ 50000) (hx : okS x) (st : Sto) : ∃ st2, f_is_name pt [.str x] st = some (.bl (okName x), st2) ∧ Ext st st2 := by
  refine ⟨st ++ [OB.lst ((tk (cs x)).map tokD)] ++ [OB.lst ([((("word" : Str), cs x) : Str × List Nat)].map tokD)], run_ret rfl ?_, (Ext.app _).trans (Ext.app _)⟩
  have g1 : getL (st ++ [OB.lst ((tk (cs x)).map tokD)] ++ [OB.lst ([((("word" : Str), cs x) : Str × List Nat)].map tokD)]) st.length = some ((tk (cs x)).map tokD) := Ext.getL (Ext.app _) (getL_of (by simp))
  have g2 : getL (st ++ [OB.lst ((tk (cs x)).map tokD)] ++ [OB.lst ([((("word" : Str), cs x) : Str × List Nat)].map tokD)]) (st ++ [OB.lst ((tk (cs x)).map tokD)]).length = some ([((("word" : Str), cs x) : Str × List Nat)].map tokD) := getL_of (by simp)
  have q := eq_toks g1 g2 (ok_tk hx) (fun t ht => by rw [List.mem_singleton.mp ht]; exact ⟨show PyData.strOk (Str.ofString "word") = true by decide +kernel, strOk_mk hx⟩) false
  rw [tk_name, Bool.bne_false] at q
  have ew : [D.tup [.str "word", .str x]] = [((("word" : Str), cs x) : Str × List Nat)].map tokD := by simp [tokD, mk_cs]
  have L1 : (1 : Nat) ≤ LIM := by decide
  have L2' : (2 : Nat) ≤ LIM := by decide
  have i1 : ∀ st : Sto, inO true (.str x) c_REGISTERS st = some (.bl (!inF (.str x) regL), st) := fun st => by
    show inO true (.str x) (.tup regL) st = _
    have : regL.all scalD = true := by decide
    simp only [inO, this, scalD, and_self, if_true, Bool.bne_true]
  have i2 : ∀ st : Sto, inO true (.str x) c_RESERVED st = some (.bl (!inF (.str x) resL), st) := fun st => by
    show inO true (.str x) (.tup resL) st = _
    have : resL.all scalD = true := by decide
    simp only [inO, this, scalD, and_self, if_true, Bool.bne_true]
  unfold b_is_name okName
  simp only [retS_eq, andF_eq, binF_eq, callF_eq, consF_eq, nilF_eq, varF_eq, cstF_eq, lstF_eq, tupF_eq, bnd_some, List.map_cons, List.map_nil, List.cons_append, List.getElem?_cons_zero, hp x _ hl, List.length_cons, List.length_nil, Nat.zero_add, L1, L2', if_true]
  simp only [List.map_cons, List.map_nil, tokD, mk_cs] at q
  simp only [tokD, List.map_cons, List.map_nil, mk_cs] at q ⊢
  rw [q]
  simp only [bnd_some, truth_bl, Option.bind_some, i1, i2]
  cases nameB (cs x) with
  | false => simp
  | true =>
    cases inF (.str x) regL with
    | false => simp
    | true => simp
end Lw

namespace Lw
open PySem L2 Iv
theorem box0 (ns ds : List Int) : Box [.frz (ns.map .int), .lst (ds.map .int), .lst [.loc 1, .int 0]] 2 := ⟨1, 0, ds, by decide, rfl, rfl⟩
theorem not_in_str (c : Nat) (x : Str) (st : Sto) : inO true (.str (mk [c])) (.str x) st = some (.bl (!decide (c ∈ cs x)), st) := by
  have h := StrLaws.found_one x c
  simp only [inO]
  rw [show (mk [c]) = (⟨#[c]⟩ : Str) from rfl, h, Bool.bne_true]
theorem in_lst {x : Str} {k : Nat} {ys : List D} {st : Sto} (h : getL st k = some ys) (hs : ys.all scalD = true) : inO false (.str x) (.loc k) st = some (.bl (inF (.str x) ys), st) := by
  simp only [inO, h, hs, scalD, and_self, if_true, Bool.bne_false]
/-- what the law's own test says -/
def dueB (x : Str) : Bool := !inF (.str x) resL && !inF (.str x) regL && nameB (cs x)
theorem due_ok (x : Str) (hl : x.length ≤ 50000) (st : Sto) : ∃ st2, f__law_due [.str x] st = some (.bl (okName x), st2) ∧ Ext st st2 := by
  have hL : x.length ≤ LIM := Nat.le_trans hl (by decide)
  have hlen := len_cs x
  suffices q : ∃ d s, f__law_due [.str x] st = some (d, s) ∧ d = .bl (okName x) ∧ Ext st s by
    obtain ⟨d, s, e, rfl, h⟩ := q
    exact ⟨s, e, h⟩
  refine wp_run rfl ?_
  unfold b__law_due
  refine wp_nx (σ1 := [some (.str x), some (.str "abcdefghijklmnopqrstuvwxyz"), none, none]) (st1 := st) (by simp) ?_
  refine wp_nx (σ1 := [some (.str x), some (.str "abcdefghijklmnopqrstuvwxyz"), some (.loc st.length), none]) (st1 := st ++ [.lst resL]) (by simp [LIM, resL]) ?_
  have gr : getL (st ++ [.lst resL]) st.length = some resL := getL_of (by simp)
  have rs : resL.all scalD = true := by decide
  have gs : regL.all scalD = true := by decide
  have gr2 : getL (st ++ [OB.lst resL] ++ [OB.lst regL]) (st ++ [OB.lst resL]).length = some regL := getL_of (by simp)
  have x1 : Ext st (st ++ [.lst resL]) := Ext.app _
  have x2 : Ext st (st ++ [OB.lst resL] ++ [OB.lst regL]) := (Ext.app _).trans (Ext.app _)
  have q1 := in_lst (x := x) gr rs
  have q2 := in_lst (x := x) gr2 gs
  have L4' : (4 : Nat) ≤ LIM := by decide
  by_cases c1 : inF (.str x) resL = true
  · refine wp_seq (wp_if (t := true) (st1 := st ++ [.lst resL]) ?_ (fun _ => ?_) (fun e => by cases e))
    · simp only [orT_eq, cmpT_eq, binF_eq, varF_eq, bnd_some, List.getElem?_cons_zero, List.getElem?_cons_succ, q1, c1, truth_bl, Option.map_some, if_true]
    · exact wp_ret (d := .bl false) rfl ⟨by simp [okName, c1], x1⟩
  · have c1' : inF (.str x) resL = false := by simpa using c1
    have step : ∀ {t : Bool}, (inF (.str x) regL = true → t = true) → (inF (.str x) regL = false → orT (cmpT ltO (appF lenO (consF (varF 0) nilF)) (cstF (.int 1))) (orT (cmpT gtO (appF lenO (consF (varF 0) nilF)) (cstF (.int 8))) (cmpT (inO true) (binF ixO (varF 0) (cstF (.int 0))) (varF 1))) [some (.str x), some (.str "abcdefghijklmnopqrstuvwxyz"), some (.loc st.length), none] (st ++ [OB.lst resL] ++ [OB.lst regL]) = some (t, st ++ [OB.lst resL] ++ [OB.lst regL])) →
        orT (cmpT (inO false) (varF 0) (varF 2)) (orT (cmpT (inO false) (varF 0) (lstF (consF (cstF (.str "a")) (consF (cstF (.str "b")) (consF (cstF (.str "c")) (consF (cstF (.str "d")) nilF)))))) (orT (cmpT ltO (appF lenO (consF (varF 0) nilF)) (cstF (.int 1))) (orT (cmpT gtO (appF lenO (consF (varF 0) nilF)) (cstF (.int 8))) (cmpT (inO true) (binF ixO (varF 0) (cstF (.int 0))) (varF 1))))) [some (.str x), some (.str "abcdefghijklmnopqrstuvwxyz"), some (.loc st.length), none] (st ++ [.lst resL]) = some (t, st ++ [OB.lst resL] ++ [OB.lst regL]) := by
      intro t h1 h2
      rw [orT_eq]
      simp only [cmpT_eq, binF_eq, varF_eq, bnd_some, List.getElem?_cons_zero, List.getElem?_cons_succ, q1, c1', truth_bl, Option.map_some, Bool.false_eq_true, if_false]
      rw [orT_eq]
      have e2 : cmpT (inO false) (varF 0) (lstF (consF (cstF (.str "a")) (consF (cstF (.str "b")) (consF (cstF (.str "c")) (consF (cstF (.str "d")) nilF))))) [some (.str x), some (.str "abcdefghijklmnopqrstuvwxyz"), some (.loc st.length), none] (st ++ [.lst resL]) = some (inF (.str x) regL, st ++ [OB.lst resL] ++ [OB.lst regL]) := by
        simp only [cmpT_eq, binF_eq, varF_eq, lstF_eq, consF_eq, nilF_eq, cstF_eq, bnd_some, List.getElem?_cons_zero, List.length_cons, List.length_nil, Nat.zero_add, Nat.reduceAdd, L4', if_true]
        rw [show [D.str "a", .str "b", .str "c", .str "d"] = regL from rfl, q2]
        rfl
      rw [e2, bnd_some]
      cases hr : inF (.str x) regL with
      | true => rw [h1 hr, if_pos rfl]
      | false => rw [if_neg (by simp)]; exact h2 hr
    by_cases c2 : inF (.str x) regL = true
    · refine wp_seq (wp_if (t := true) (st1 := st ++ [OB.lst resL] ++ [OB.lst regL]) (step (fun _ => rfl) (fun h => by rw [c2] at h; cases h)) (fun _ => ?_) (fun e => by cases e))
      exact wp_ret (d := .bl false) rfl ⟨by simp [okName, c2], x2⟩
    · have c2' : inF (.str x) regL = false := by simpa using c2
      -- the length and the first sign
      cases hx : cs x with
      | nil =>
        have h0 : x.length = 0 := by rw [hlen, hx]; rfl
        refine wp_seq (wp_if (t := true) (st1 := st ++ [OB.lst resL] ++ [OB.lst regL]) (step (fun _ => rfl) (fun _ => ?_)) (fun _ => ?_) (fun e => by cases e))
        · simp only [orT_eq, cmpT_eq, binF_eq, varF_eq, appF_eq, consF_eq, nilF_eq, cstF_eq, bnd_some, List.getElem?_cons_zero, lenO_str, hL, if_true, ltO_int, truth_bl, Option.map_some, h0]
          rfl
        · exact wp_ret (d := .bl false) rfl ⟨by simp [okName, hx, nameB], x2⟩
      | cons c r =>
        have h0 : x.length = r.length + 1 := by rw [hlen, hx]; rfl
        have n1 : ¬ ((x.length : Nat) : Int) < 1 := by omega
        by_cases c3 : 8 < x.length
        · have n2 : (8 : Int) < ((x.length : Nat) : Int) := by omega
          refine wp_seq (wp_if (t := true) (st1 := st ++ [OB.lst resL] ++ [OB.lst regL]) (step (fun _ => rfl) (fun _ => ?_)) (fun _ => ?_) (fun e => by cases e))
          · simp only [orT_eq, cmpT_eq, binF_eq, varF_eq, appF_eq, consF_eq, nilF_eq, cstF_eq, bnd_some, List.getElem?_cons_zero, lenO_str, hL, if_true, ltO_int, gtO_int, truth_bl, Option.map_some, n1, n2, decide_true, decide_false, Bool.false_eq_true, if_false]
          · refine wp_ret (d := .bl false) rfl ⟨?_, x2⟩
            have : ¬ (r.length + 1 ≤ 8) := by omega
            simp [okName, hx, nameB, this]
        · have n2 : ¬ (8 : Int) < ((x.length : Nat) : Int) := by omega
          have ix : ∀ st, ixO (.str x) (.int 0) st = some (.str (mk [c]), st) := fun st => ix_str_at (i := 0) hL (show (cs x)[0]? = some c by rw [hx]; rfl) st
          have il : ∀ st, inO true (.str (mk [c])) (.str (Str.ofString "abcdefghijklmnopqrstuvwxyz")) st = some (.bl (!isL c), st) := fun st => not_in_str c _ st
          refine wp_seq (wp_if (t := !isL c) (st1 := st ++ [OB.lst resL] ++ [OB.lst regL]) (step (fun h => by rw [c2'] at h; cases h) (fun _ => ?_)) (fun ht => ?_) (fun hf => wp_skip ?_))
          · simp only [orT_eq, cmpT_eq, binF_eq, varF_eq, appF_eq, consF_eq, nilF_eq, cstF_eq, bnd_some, List.getElem?_cons_zero, List.getElem?_cons_succ, lenO_str, hL, if_true, ltO_int, gtO_int, truth_bl, Option.map_some, n1, n2, decide_true, decide_false, Bool.false_eq_true, if_false, ix, il]
          · have hc : isL c = false := by simpa using ht
            exact wp_ret (d := .bl false) rfl ⟨by simp [okName, hx, nameB, hc], x2⟩
          · have hc : isL c = true := by simpa using hf
            have h8 : r.length + 1 ≤ 8 := by omega
            refine wp_seq (wp_for (xs := charsD x) (st1 := st ++ [OB.lst resL] ++ [OB.lst regL]) (fun i σ s => s = st ++ [OB.lst resL] ++ [OB.lst regL] ∧ (∃ x3, σ = [some (.str x), some (.str "abcdefghijklmnopqrstuvwxyz"), some (.loc st.length), x3]) ∧ ((cs x).take i).all isW = true) (by simp) ⟨rfl, ⟨_, rfl⟩, by simp⟩ ?_ ?_)
            · rintro i σ s d hd ⟨rfl, ⟨x3, rfl⟩, hall⟩
              unfold charsD at hd
              rw [List.getElem?_map] at hd
              cases he : (cs x)[i]? with
              | none => rw [show x.cps.toList[i]? = none from he] at hd; cases hd
              | some e =>
                rw [show x.cps.toList[i]? = some e from he] at hd
                cases hd
                refine ⟨_, rfl, ?_⟩
                have cat : ∀ st, addO (.str (Str.ofString "abcdefghijklmnopqrstuvwxyz")) (.str (Str.ofString "0123456789")) st = some (.str (("abcdefghijklmnopqrstuvwxyz" : Str) ++ ("0123456789" : Str)), st) := fun st => by
                  have : (Str.ofString "abcdefghijklmnopqrstuvwxyz").length + (Str.ofString "0123456789").length ≤ LIM := by decide +kernel
                  exact (addO_str).trans (if_pos this)
                have iw : ∀ st, inO true (.str ⟨#[e]⟩) (.str (("abcdefghijklmnopqrstuvwxyz" : Str) ++ ("0123456789" : Str))) st = some (.bl (!isW e), st) := fun st => by
                  have := not_in_str e (("abcdefghijklmnopqrstuvwxyz" : Str) ++ ("0123456789" : Str)) st
                  rw [cs_app] at this
                  exact this
                refine wp_if (t := !isW e) (st1 := st ++ [OB.lst resL] ++ [OB.lst regL]) (by simp only [cmpT_eq, binF_eq, varF_eq, cstF_eq, bnd_some, List.getElem?_cons_zero, List.getElem?_cons_succ, List.set_cons_succ, List.set_cons_zero, cat, iw, truth_bl, Option.map_some]) (fun ht => ?_) (fun hf => wp_skip ⟨rfl, ⟨_, rfl⟩, ?_⟩)
                · have hw : isW e = false := by simpa using ht
                  refine wp_ret (d := .bl false) rfl ⟨?_, x2⟩
                  have : (cs x).all isW = false := by
                    cases hq : (cs x).all isW with
                    | false => rfl
                    | true => rw [List.all_eq_true.mp hq e (List.mem_of_getElem? he)] at hw; cases hw
                  rw [hx] at this
                  simp only [okName, hx, nameB, this, Bool.and_false, Bool.false_and]
                · have hw : isW e = true := by simpa using hf
                  rw [List.take_add_one, he, List.all_append, hall]
                  simp [hw]
            · rintro σ s ⟨rfl, ⟨x3, rfl⟩, hall⟩
              have hcl : (charsD x).length = (cs x).length := by simp [charsD]
              rw [hcl, List.take_length, hx] at hall
              exact wp_ret (d := .bl true) rfl ⟨by simp only [okName, hx, nameB, hc, hall, c1', c2', List.length_cons, h8, decide_true, Bool.and_true, Bool.not_false], x2⟩
def words : List Str := ["var", "lock", "cond", "of", "queue", "thread", "let", "get", "put", "add", "unlock", "wait", "notify", "all", "send", "take", "check", "go", "if", "begin", "end", "stop", "and", "or", "not", "a", "b", "c", "d", "e", ""]
def okC (x : Str) : Bool := (cs x).all fun c => decide (c < 128)
theorem words_ok : (words.all fun w => decide (w.length ≤ 10) && okC w) = true := by decide +kernel
theorem word_at (u : Int) (h0 : 0 ≤ u) (h1 : u < 31) : ∃ w : Str, atI (words.map D.str) u = some (.str w) ∧ w.length ≤ 10 ∧ okC w = true := by
  obtain ⟨k, rfl⟩ : ∃ k : Nat, u = (k : Int) := ⟨u.toNat, by omega⟩
  have hk : k < words.length := by show k < 31; omega
  have e : words[k]? = some words[k] := List.getElem?_eq_getElem hk
  have m := List.all_eq_true.mp words_ok _ (List.mem_of_getElem? e)
  simp only [Bool.and_eq_true, decide_eq_true_eq] at m
  exact ⟨words[k], atI_nat (by rw [List.getElem?_map, e]; rfl), m.1, m.2⟩
/-- a drawn sign of a written text -/
theorem sign_at (x : Str) (hx : okC x = true) (u : Int) (h0 : 0 ≤ u) (h1 : u < x.length) : ∃ c : Nat, atI x.cps.toList u = some c ∧ c < 128 := by
  obtain ⟨k, rfl⟩ : ∃ k : Nat, u = (k : Int) := ⟨u.toNat, by omega⟩
  have hk : k < (cs x).length := by rw [← len_cs]; omega
  have e : (cs x)[k]? = some (cs x)[k] := List.getElem?_eq_getElem hk
  have m := List.all_eq_true.mp hx _ (List.mem_of_getElem? e)
  exact ⟨(cs x)[k], atI_nat e, of_decide_eq_true m⟩
theorem okC_app {x y : Str} (h : okC x = true) (k : okC y = true) : okC (x ++ y) = true := by
  unfold okC at *
  rw [cs_app, List.all_append, h, k]
  rfl
theorem okC_one {c : Nat} (h : c < 128) : okC ⟨#[c]⟩ = true := by simp [okC, cs, h]
theorem okC_cut {x : Str} (h : okC x = true) (lo hi : Option Int) : okC (cutS x lo hi) = true := by
  unfold okC at *
  rw [List.all_eq_true] at h ⊢
  intro c hc
  refine h c ?_
  unfold cutS cs at hc
  exact List.mem_of_mem_drop (List.mem_of_mem_take hc)
theorem len_app (x y : Str) : (x ++ y).length = x.length + y.length := by rw [len_cs, len_cs, len_cs, cs_app, List.length_append]
theorem okS_of {x : Str} (h : okC x = true) : okS x := fun c hc => by
  have := of_decide_eq_true (List.all_eq_true.mp h c hc)
  omega
theorem k07_law {digits draw same due name : Fx} (hdig : ∀ (st : Sto) (n : Nat) (ns : List Int), getL st n = some (ns.map .int) → ∃ ds : List Int, digits [.loc n, .int 0, .int 63] st = some (.loc st.length, st ++ [.lst (ds.map .int)]))
    (hdraw : DrawOk draw) (hsame : ∀ (st : Sto) (a b : D), Sm st 1 a b → same [a, b] st = some (.bl true, st))
    (hdue : ∀ (x : Str), x.length ≤ 50000 → ∀ st : Sto, ∃ st2, due [.str x] st = some (.bl (okName x), st2) ∧ Ext st st2)
    (hname : ∀ (x : Str), x.length ≤ 50000 → okS x → ∀ st : Sto, ∃ st2, name [.str x] st = some (.bl (okName x), st2) ∧ Ext st st2) :
    ∀ ns : List Int, ns.length ≤ 63 → ∃ st', runF 8 1 (b_law digits draw same due name) [.loc 0] [.frz (ns.map .int)] = some (.bl true, st') := by
  intro ns hns
  suffices q : ∃ d s, runF 8 1 (b_law digits draw same due name) [.loc 0] [.frz (ns.map .int)] = some (d, s) ∧ d = .bl true by
    obtain ⟨d, s, e, rfl⟩ := q
    exact ⟨s, e⟩
  obtain ⟨ds, hds⟩ := hdig [.frz (ns.map .int)] 0 ns rfl
  have hds' : digits [.loc 0, .int 0, .int 63] [.frz (ns.map .int)] = some (.loc 1, [.frz (ns.map .int), .lst (ds.map .int)]) := hds
  refine wp_run rfl ?_
  unfold b_law
  refine wp_nx (σ1 := [some (.loc 0), some (.loc 2), none, none, none, none, none, none]) (st1 := [.frz (ns.map .int), .lst (ds.map .int), .lst [.loc 1, .int 0]]) (by simp [hds', LIM]) ?_
  refine wp_nx (σ1 := [some (.loc 0), some (.loc 2), some (.loc 3), none, none, none, none, none]) (st1 := [.frz (ns.map .int), .lst (ds.map .int), .lst [.loc 1, .int 0], .lst (words.map .str)]) (by simp [LIM, words]) ?_
  refine wp_seq (wp_for (xs := rngD 0 6) (st1 := [.frz (ns.map .int), .lst (ds.map .int), .lst [.loc 1, .int 0], .lst (words.map .str)]) (fun i σ s => Box s 2 ∧ getL s 3 = some (words.map .str) ∧ ∃ x3 x4 x5 x6 x7, σ = [some (.loc 0), some (.loc 2), some (.loc 3), x3, x4, x5, x6, x7]) (by simp) ⟨(box0 ns ds).app [.lst (words.map .str)], rfl, _, _, _, _, _, rfl⟩ ?_ ?_)
  · rintro i σ s d hd ⟨hb, hw, x3, x4, x5, x6, x7, rfl⟩
    obtain ⟨hi, rfl⟩ := rngD_get hd
    refine ⟨_, rfl, ?_⟩
    generalize ((0 : Int) + (i : Nat)) = ii
    obtain ⟨v, s1, e1, v0, v1, u1, l1, b1⟩ := hdraw s 2 31 hb (by decide)
    have hw1 := u1.getL (by decide) hw
    obtain ⟨w, ew, wl, wc⟩ := word_at v v0 v1
    refine wp_nx (σ1 := [some (.loc 0), some (.loc 2), some (.loc 3), some (.int ii), some (.str w), x5, x6, x7]) (st1 := s1) (by simp [e1, hw1, ew]) ?_
    obtain ⟨v2, s2, e2, v20, v21, u2, l2, b2⟩ := hdraw s1 2 2 b1 (by decide)
    have hw2 := u2.getL (by decide) hw1
    -- the text behind the first choice
    refine wp_seq ?_
    refine wp_mono (Q := fun r s => ∃ (t : Str) (x5 : Option D), t.length ≤ 10 ∧ okC t = true ∧ Box s 2 ∧ getL s 3 = some (words.map .str) ∧ r = .nx [some (.loc 0), some (.loc 2), some (.loc 3), some (.int ii), some (.str t), x5, x6, x7]) ?_ ?_
    · refine wp_if (t := decide (v2 = 0)) (st1 := s2) (by simp [e2]) (fun _ => ?_) (fun _ => wp_skip ⟨w, x5, wl, wc, b2, hw2, rfl⟩)
      refine wp_nx (σ1 := [some (.loc 0), some (.loc 2), some (.loc 3), some (.int ii), some (.str ""), x5, x6, x7]) (st1 := s2) (by simp) ?_
      obtain ⟨v3, s3, e3, v30, v31, u3, l3, b3⟩ := hdraw s2 2 10 b2 (by decide)
      have hw3 := u3.getL (by decide) hw2
      refine wp_for (xs := rngD 0 (1 + v3).toNat) (st1 := s3) (fun j σ s => ∃ (t : Str) (x5 : Option D), t.length = j ∧ okC t = true ∧ Box s 2 ∧ getL s 3 = some (words.map .str) ∧ σ = [some (.loc 0), some (.loc 2), some (.loc 3), some (.int ii), some (.str t), x5, x6, x7]) (rng1_ok (by simp [e3]) (by omega) (by omega)) ⟨"", x5, rfl, rfl, b3, hw3, rfl⟩ ?_ ?_
      · rintro j σ s d hd ⟨t, x5, ht, hc, hb4, hw4, rfl⟩
        obtain ⟨hj, rfl⟩ := rngD_get hd
        refine ⟨_, rfl, ?_⟩
        generalize ((0 : Int) + (j : Nat)) = jj
        obtain ⟨v5, s5, e5, v50, v51, u5, l5, b5⟩ := hdraw s 2 36 hb4 (by decide)
        have hl36 : (Str.ofString "abcdefghijklmnopqrstuvwxyz0123456789").length = 36 := by decide +kernel
        obtain ⟨c, ec, hc128⟩ := sign_at "abcdefghijklmnopqrstuvwxyz0123456789" (by decide +kernel) v5 v50 (by rw [hl36]; exact v51)
        have hl1 : (⟨#[c]⟩ : Str).length = 1 := rfl
        have hz : t.length + (⟨#[c]⟩ : Str).length ≤ LIM := by rw [ht, hl1]; show j + 1 ≤ 1000000; omega
        have h36 : (Str.ofString "abcdefghijklmnopqrstuvwxyz0123456789").length ≤ LIM := by rw [hl36]; decide
        refine wp_ok (r := .nx [some (.loc 0), some (.loc 2), some (.loc 3), some (.int ii), some (.str (t ++ ⟨#[c]⟩)), some (.int jj), x6, x7]) (st := s5) ?_ ⟨t ++ ⟨#[c]⟩, _, by rw [len_app, ht, hl1], okC_app hc (okC_one hc128), b5, u5.getL (by decide) hw4, rfl⟩
        simp only [asgS_eq, binF_eq, varF_eq, cstF_eq, callF_eq, consF_eq, nilF_eq, bnd_some, List.getElem?_cons_zero, List.getElem?_cons_succ, List.set_cons_succ, List.set_cons_zero, e5, ixO_str, h36, if_true, ec, Option.map_some, addO_str, hz, nmG_eq]
      · rintro σ s ⟨t, x5, ht, hc, hb4, hw4, rfl⟩
        rw [rngD_len] at ht
        exact ⟨t, x5, by omega, hc, hb4, hw4, rfl⟩
    · rintro r s ⟨t, x5, tl, tc, hb4, hw4, rfl⟩
      obtain ⟨v6, s6, e6, v60, v61, u6, l6, b6⟩ := hdraw s 2 5 hb4 (by decide)
      have hw6 := u6.getL (by decide) hw4
      refine wp_nx (σ1 := [some (.loc 0), some (.loc 2), some (.loc 3), some (.int ii), some (.str t), x5, some (.int v6), x7]) (st1 := s6) (by simp [e6]) ?_
      have htL : t.length ≤ LIM := Nat.le_trans tl (by decide)
      obtain ⟨v7, s7, e7, v70, v71, u7, l7, b7⟩ := hdraw s6 2 ((t.length : Int) + 1) b6 (by omega)
      have hw7 := u7.getL (by decide) hw6
      refine wp_nx (σ1 := [some (.loc 0), some (.loc 2), some (.loc 3), some (.int ii), some (.str t), x5, some (.int v6), some (.int v7)]) (st1 := s7) (by simp only [asgS_eq, binF_eq, appF_eq, varF_eq, cstF_eq, callF_eq, consF_eq, nilF_eq, bnd_some, List.getElem?_cons_zero, List.getElem?_cons_succ, List.set_cons_succ, List.set_cons_zero, lenO_str, htL, if_true, addO_int, e7, nmG_eq, Option.map_some]) ?_
      refine wp_seq ?_
      refine wp_mono (Q := fun r s => ∃ (t : Str), t.length ≤ 30 ∧ okC t = true ∧ Box s 2 ∧ getL s 3 = some (words.map .str) ∧ r = .nx [some (.loc 0), some (.loc 2), some (.loc 3), some (.int ii), some (.str t), x5, some (.int v6), some (.int v7)]) ?_ ?_
      · refine wp_if (t := decide (v6 = 0)) (st1 := s7) (by simp) (fun _ => ?_) (fun _ => wp_skip ⟨t, by omega, tc, b7, hw7, rfl⟩)
        obtain ⟨v8, s8, e8, v80, v81, u8, l8, b8⟩ := hdraw s7 2 8 b7 (by decide)
        have hl8 : (Str.ofString " A-_x0(\n").length = 8 := by decide +kernel
        obtain ⟨c, ec, hc128⟩ := sign_at " A-_x0(\n" (by decide +kernel) v8 v80 (by rw [hl8]; exact v81)
        have h8 : (Str.ofString " A-_x0(\n").length ≤ LIM := by rw [hl8]; decide
        have hl1 : (⟨#[c]⟩ : Str).length = 1 := rfl
        have q1 := cutS_length t none (some v7)
        have q2 := cutS_length t (some v7) none
        have z1 : (cutS t none (some v7)).length + (⟨#[c]⟩ : Str).length ≤ LIM := by rw [hl1]; show _ ≤ 1000000; omega
        have z2 : (cutS t none (some v7) ++ ⟨#[c]⟩).length + (cutS t (some v7) none).length ≤ LIM := by rw [len_app, hl1]; show _ ≤ 1000000; omega
        refine wp_ok (r := .nx [some (.loc 0), some (.loc 2), some (.loc 3), some (.int ii), some (.str (cutS t none (some v7) ++ ⟨#[c]⟩ ++ cutS t (some v7) none)), x5, some (.int v6), some (.int v7)]) (st := s8) ?_ ⟨_, by rw [len_app, len_app, hl1]; omega, okC_app (okC_app (okC_cut tc _ _) (okC_one hc128)) (okC_cut tc _ _), b8, u8.getL (by decide) hw7, rfl⟩
        simp only [asgS_eq, binF_eq, slF_eq, noneO_eq, someO_eq, varF_eq, cstF_eq, callF_eq, consF_eq, nilF_eq, bnd_some, List.getElem?_cons_zero, List.getElem?_cons_succ, List.set_cons_succ, List.set_cons_zero, cutO_str, htL, if_true, e8, ixO_str, h8, ec, Option.map_some, addO_str, z1, z2, nmG_eq]
      · rintro r s ⟨t, tl, tc, hb9, hw9, rfl⟩
        obtain ⟨s10, e10, x10⟩ := hname t (by omega) (okS_of tc) s
        obtain ⟨s11, e11, x11⟩ := hdue t (by omega) s10
        have sm : Sm s11 1 (.bl (okName t)) (.bl (okName t)) := by simp [Sm]
        refine wp_if (t := false) (st1 := s11) ?_ (fun e => by cases e) (fun _ => wp_skip ⟨(hb9.ext x10).ext x11, x11.getL (x10.getL hw9), _, _, _, _, _, rfl⟩)
        simp only [notT_eq, truF_eq, callF_eq, consF_eq, nilF_eq, varF_eq, bnd_some, List.getElem?_cons_succ, List.getElem?_cons_zero, e10, e11, hsame _ _ _ sm, truth_bl, Option.map_some, Bool.not_true]
  · rintro σ s ⟨hb, hw, x3, x4, x5, x6, x7, rfl⟩
    exact wp_ret (d := .bl true) (st1 := s) (by simp) rfl
end Lw

namespace Lw
open PySem L2 Iv
abbrev top (i : Nat) : Stmt := PySem.Challenge.pw_everyturn_k07_names.main.body.getD i (.Pass ⟨0, 0, 0, 0⟩)
abbrev s_tokens : Stmt := top 6
abbrev N_tokens : List Str := ["line", "found", "at", "token"]
theorem sc_tokens : FnScope N_tokens ["line"] (defScope s_tokens) := ⟨rfl, rfl, rfl, by decide +kernel, rfl, by decide +kernel, by decide +kernel⟩
theorem d_tokens {P : Program} {w : World} {K : PySem.W.Frag} {mg : Str → Option Value} {base : Heap} {k : Nat} {p__token_at : Fx} (C__token_at : Cal P w K mg base k "_token_at" ["line", "at"] p__token_at)  (z_len : mg "len" = none) (f : Addr) (cdv : Value) (A : Around) (outer : List Env) (s : Shared) (H : Hp) (E : XK) (hr : Room k (A.deeper (PyProof.Rows.envOfC "tokens" (defScope s_tokens) s.heap.objs.size f cdv))) :
    PSs (cxOf CX0 P w K mg base N_tokens "tokens" (defScope s_tokens) f cdv A outer s H E).nox (defBody s_tokens) (rdS K w (b_tokens p__token_at)) := by
  have nd := sc_tokens.nd
  exact (ss_cons (ss_set (i := 1) nd rfl (by first | exact Or.inl rfl | exact Or.inr rfl) (se_lst sa_nil))
  (ss_cons (ss_set (i := 2) nd rfl (by first | exact Or.inl rfl | exact Or.inr rfl) se_int)
  (ss_cons (ss_while (n := 100000) PassesOwn.never (t_cmp cm_lt (se_var (pv 2)) (e_len rfl z_len (sa_cons (se_var (pv 0)) sa_nil))) (ss_one (ss_if (t_cmp (cm_eq (r64 hr)) (e_ix (se_var (pv 0)) (se_var (pv 2))) se_str) (ss_one (s_iadd (i := 2) nd rfl (by first | exact Or.inl rfl | exact Or.inr rfl) se_int)) (ss_cons (ss_set (i := 3) nd rfl (by first | exact Or.inl rfl | exact Or.inr rfl) (e_call C__token_at hr rfl (sa_cons (se_var (pv 0)) (sa_cons (se_var (pv 2)) sa_nil))))
  (ss_cons (ss_expr (e_append (se_var (pv 1)) (sa_cons (se_var (pv 3)) sa_nil)))
  (ss_one (s_iadd (i := 2) nd rfl (by first | exact Or.inl rfl | exact Or.inr rfl) (e_len rfl z_len (sa_cons (e_ix (se_var (pv 3)) se_int) sa_nil)))))))))
  (ss_one (ss_ret (se_var (pv 1)))))))
abbrev s__token_at : Stmt := top 7
abbrev N__token_at : List Str := ["line", "at", "run"]
theorem sc__token_at : FnScope N__token_at ["line", "at"] (defScope s__token_at) := ⟨rfl, rfl, rfl, by decide +kernel, rfl, by decide +kernel, by decide +kernel⟩
theorem d__token_at {P : Program} {w : World} {K : PySem.W.Frag} {mg : Str → Option Value} {base : Heap} {k : Nat} {p__run_at : Fx} (C__run_at : Cal P w K mg base k "_run_at" ["line", "at", "characters"] p__run_at) {p__is_number : Fx} (C__is_number : Cal P w K mg base k "_is_number" ["digits"] p__is_number) (k_DIGITS : Con K mg "DIGITS" c_DIGITS) (k_LETTERS : Con K mg "LETTERS" c_LETTERS) (k_LONGEST_WORD : Con K mg "LONGEST_WORD" c_LONGEST_WORD) (k_SIGNS : Con K mg "SIGNS" c_SIGNS) (z_len : mg "len" = none) (f : Addr) (cdv : Value) (A : Around) (outer : List Env) (s : Shared) (H : Hp) (E : XK) (hr : Room k (A.deeper (PyProof.Rows.envOfC "_token_at" (defScope s__token_at) s.heap.objs.size f cdv))) :
    PSs (cxOf CX0 P w K mg base N__token_at "_token_at" (defScope s__token_at) f cdv A outer s H E).nox (defBody s__token_at) (rdS K w (b__token_at p__run_at p__is_number)) := by
  have nd := sc__token_at.nd
  exact (ss_cons (ss_if (t_cmp (cm_in (r65 hr)) (e_ix (se_var (pv 0)) (se_var (pv 1))) (e_con k_DIGITS rfl)) (ss_cons (ss_set (i := 2) nd rfl (by first | exact Or.inl rfl | exact Or.inr rfl) (e_call C__run_at hr rfl (sa_cons (se_var (pv 0)) (sa_cons (se_var (pv 1)) (sa_cons (e_con k_DIGITS rfl) sa_nil)))))
  (ss_one (ss_ret (se_tup (sa_cons (se_if (st_tru (e_call C__is_number hr rfl (sa_cons (se_var (pv 2)) sa_nil))) se_str se_str) (sa_cons (se_var (pv 2)) sa_nil)))))) ss_nil)
  (ss_cons (ss_if (t_cmp (cm_in (r65 hr)) (e_ix (se_var (pv 0)) (se_var (pv 1))) (e_con k_LETTERS rfl)) (ss_cons (ss_set (i := 2) nd rfl (by first | exact Or.inl rfl | exact Or.inr rfl) (e_call C__run_at hr rfl (sa_cons (se_var (pv 0)) (sa_cons (se_var (pv 1)) (sa_cons (e_add (e_con k_LETTERS rfl) (e_con k_DIGITS rfl)) sa_nil)))))
  (ss_one (ss_ret (se_tup (sa_cons (se_if (t_cmp cm_le (e_len rfl z_len (sa_cons (se_var (pv 2)) sa_nil)) (e_con k_LONGEST_WORD rfl)) se_str se_str) (sa_cons (se_var (pv 2)) sa_nil)))))) ss_nil)
  (ss_one (ss_ret (se_tup (sa_cons (se_if (t_cmp (cm_in (r65 hr)) (e_ix (se_var (pv 0)) (se_var (pv 1))) (e_con k_SIGNS rfl)) se_str se_str) (sa_cons (e_ix (se_var (pv 0)) (se_var (pv 1))) sa_nil)))))))
abbrev s__run_at : Stmt := top 8
abbrev N__run_at : List Str := ["line", "at", "characters", "end"]
theorem sc__run_at : FnScope N__run_at ["line", "at", "characters"] (defScope s__run_at) := ⟨rfl, rfl, rfl, by decide +kernel, rfl, by decide +kernel, by decide +kernel⟩
theorem d__run_at {P : Program} {w : World} {K : PySem.W.Frag} {mg : Str → Option Value} {base : Heap} {k : Nat}   (z_len : mg "len" = none) (f : Addr) (cdv : Value) (A : Around) (outer : List Env) (s : Shared) (H : Hp) (E : XK) (hr : Room k (A.deeper (PyProof.Rows.envOfC "_run_at" (defScope s__run_at) s.heap.objs.size f cdv))) :
    PSs (cxOf CX0 P w K mg base N__run_at "_run_at" (defScope s__run_at) f cdv A outer s H E).nox (defBody s__run_at) (rdS K w (b__run_at )) := by
  have nd := sc__run_at.nd
  exact (ss_cons (ss_set (i := 3) nd rfl (by first | exact Or.inl rfl | exact Or.inr rfl) (se_var (pv 1)))
  (ss_cons (ss_while (n := 100000) PassesOwn.never (PW.pt (sw_and (t_cmp cm_lt (se_var (pv 3)) (e_len rfl z_len (sa_cons (se_var (pv 0)) sa_nil))) (sw_and1 (t_cmp (cm_in (r65 hr)) (e_ix (se_var (pv 0)) (se_var (pv 3))) (se_var (pv 2)))))) (ss_one (s_iadd (i := 3) nd rfl (by first | exact Or.inl rfl | exact Or.inr rfl) se_int)))
  (ss_one (ss_ret (e_slice (se_var (pv 0)) (so_some (se_var (pv 1))) (so_some (se_var (pv 3))))))))
abbrev s__is_number : Stmt := top 9
abbrev N__is_number : List Str := ["digits"]
theorem sc__is_number : FnScope N__is_number ["digits"] (defScope s__is_number) := ⟨rfl, rfl, rfl, by decide +kernel, rfl, by decide +kernel, by decide +kernel⟩
theorem d__is_number {P : Program} {w : World} {K : PySem.W.Frag} {mg : Str → Option Value} {base : Heap} {k : Nat}   (z_len : mg "len" = none) (f : Addr) (cdv : Value) (A : Around) (outer : List Env) (s : Shared) (H : Hp) (E : XK) (hr : Room k (A.deeper (PyProof.Rows.envOfC "_is_number" (defScope s__is_number) s.heap.objs.size f cdv))) :
    PSs (cxOf CX0 P w K mg base N__is_number "_is_number" (defScope s__is_number) f cdv A outer s H E).nox (defBody s__is_number) (rdS K w (b__is_number )) := by
  have nd := sc__is_number.nd
  exact (ss_one (ss_ret (se_or (e_cmp (cm_eq (r64 hr)) (e_len rfl z_len (sa_cons (se_var (pv 0)) sa_nil)) se_int) (se_one (se_and (e_cmp (cm_eq (r64 hr)) (e_len rfl z_len (sa_cons (se_var (pv 0)) sa_nil)) se_int) (se_one (e_cmp (cm_ne (r64 hr)) (e_ix (se_var (pv 0)) se_int) se_str)))))))
abbrev s_is_name : Stmt := top 12
abbrev N_is_name : List Str := ["text"]
theorem sc_is_name : FnScope N_is_name ["text"] (defScope s_is_name) := ⟨rfl, rfl, rfl, by decide +kernel, rfl, by decide +kernel, by decide +kernel⟩
theorem d_is_name {P : Program} {w : World} {K : PySem.W.Frag} {mg : Str → Option Value} {base : Heap} {k : Nat} {p_tokens : Fx} (C_tokens : Cal P w K mg base k "tokens" ["line"] p_tokens) (k_REGISTERS : Con K mg "REGISTERS" c_REGISTERS) (k_RESERVED : Con K mg "RESERVED" c_RESERVED)  (f : Addr) (cdv : Value) (A : Around) (outer : List Env) (s : Shared) (H : Hp) (E : XK) (hr : Room k (A.deeper (PyProof.Rows.envOfC "is_name" (defScope s_is_name) s.heap.objs.size f cdv))) :
    PSs (cxOf CX0 P w K mg base N_is_name "is_name" (defScope s_is_name) f cdv A outer s H E).nox (defBody s_is_name) (rdS K w (b_is_name p_tokens)) := by
  have nd := sc_is_name.nd
  exact (ss_one (ss_ret (se_and (e_cmp (cm_eq (r64 hr)) (e_call C_tokens hr rfl (sa_cons (se_var (pv 0)) sa_nil)) (se_lst (sa_cons (se_tup (sa_cons se_str (sa_cons (se_var (pv 0)) sa_nil))) sa_nil))) (se_and (e_cmp (cm_notin (r65 hr)) (se_var (pv 0)) (e_con k_REGISTERS rfl)) (se_one (e_cmp (cm_notin (r65 hr)) (se_var (pv 0)) (e_con k_RESERVED rfl)))))))
abbrev s__law_cell : Stmt := top 14
abbrev N__law_cell : List Str := ["script", "k"]
theorem sc__law_cell : FnScope N__law_cell ["script", "k"] (defScope s__law_cell) := ⟨rfl, rfl, rfl, by decide +kernel, rfl, by decide +kernel, by decide +kernel⟩
theorem d__law_cell {P : Program} {w : World} {K : PySem.W.Frag} {mg : Str → Option Value} {base : Heap} {k : Nat}   (z_len : mg "len" = none) (f : Addr) (cdv : Value) (A : Around) (outer : List Env) (s : Shared) (H : Hp) (E : XK) (hr : Room k (A.deeper (PyProof.Rows.envOfC "_law_cell" (defScope s__law_cell) s.heap.objs.size f cdv))) :
    PSs (cxOf CX0 P w K mg base N__law_cell "_law_cell" (defScope s__law_cell) f cdv A outer s H E).nox (defBody s__law_cell) (rdS K w (b__law_cell )) := by
  have nd := sc__law_cell.nd
  exact (ss_cons (ss_if (t_cmp cm_lt (se_var (pv 1)) (e_len rfl z_len (sa_cons (se_var (pv 0)) sa_nil))) (ss_one (ss_ret (e_ix (se_var (pv 0)) (se_var (pv 1))))) ss_nil)
  (ss_one (ss_ret se_int)))
abbrev s__law_digits : Stmt := top 15
abbrev N__law_digits : List Str := ["script", "first", "last", "digits", "k", "cell", "turn", "seed"]
theorem sc__law_digits : FnScope N__law_digits ["script", "first", "last"] (defScope s__law_digits) := ⟨rfl, rfl, rfl, by decide +kernel, rfl, by decide +kernel, by decide +kernel⟩
theorem d__law_digits {P : Program} {w : World} {K : PySem.W.Frag} {mg : Str → Option Value} {base : Heap} {k : Nat} {p__law_cell : Fx} (C__law_cell : Cal P w K mg base k "_law_cell" ["script", "k"] p__law_cell)  (z_range : mg "range" = none) (z_int : mg "int" = none) (f : Addr) (cdv : Value) (A : Around) (outer : List Env) (s : Shared) (H : Hp) (E : XK) (hr : Room k (A.deeper (PyProof.Rows.envOfC "_law_digits" (defScope s__law_digits) s.heap.objs.size f cdv))) :
    PSs (cxOf CX0 P w K mg base N__law_digits "_law_digits" (defScope s__law_digits) f cdv A outer s H E).nox (defBody s__law_digits) (rdS K w (b__law_digits p__law_cell)) := by
  have nd := sc__law_digits.nd
  exact (ss_cons (ss_set (i := 3) nd rfl (by first | exact Or.inl rfl | exact Or.inr rfl) (se_lst sa_nil))
  (ss_cons (ss_for PassesOwn.never rfl (si_rng2 rfl z_range (sa_cons (se_var (pv 1)) (sa_cons (se_var (pv 2)) sa_nil))) (pg_name (i := 4) nd rfl (by first | exact Or.inl rfl | exact Or.inr rfl)) ok_name (ss_cons (ss_set (i := 5) nd rfl (by first | exact Or.inl rfl | exact Or.inr rfl) (e_call C__law_cell hr rfl (sa_cons (se_var (pv 0)) (sa_cons (se_var (pv 4)) sa_nil))))
  (ss_cons (ss_if (t_cmp cm_lt (se_var (pv 5)) se_int) (ss_one (ss_set (i := 5) nd rfl (by first | exact Or.inl rfl | exact Or.inr rfl) (e_sub se_int (e_mul se_int (se_var (pv 5)))))) ss_nil)
  (ss_one (ss_if (t_cmp cm_ge (se_var (pv 5)) (e_pow se_int se_int)) (ss_one (ss_for PassesOwn.never rfl (si_rng1 rfl z_range (sa_cons se_int sa_nil)) (pg_name (i := 6) nd rfl (by first | exact Or.inl rfl | exact Or.inr rfl)) ok_name (ss_one (ss_if (t_cmp cm_gt (se_var (pv 5)) se_int) (ss_cons (ss_expr (e_append (se_var (pv 3)) (sa_cons (e_mod (e_int rfl z_int (sa_cons (se_var (pv 5)) sa_nil)) se_int) sa_nil)))
  (ss_one (ss_set (i := 5) nd rfl (by first | exact Or.inl rfl | exact Or.inr rfl) (e_fdiv (se_var (pv 5)) se_int)))) ss_nil)))) (ss_cons (ss_set (i := 7) nd rfl (by first | exact Or.inl rfl | exact Or.inr rfl) (e_mod (e_int rfl z_int (sa_cons (e_add (e_add (e_mul (se_var (pv 5)) se_int) (e_mul (se_var (pv 4)) se_int)) se_int) sa_nil)) se_int))
  (ss_one (ss_for PassesOwn.never rfl (si_rng1 rfl z_range (sa_cons se_int sa_nil)) (pg_name (i := 6) nd rfl (by first | exact Or.inl rfl | exact Or.inr rfl)) ok_name (ss_cons (ss_set (i := 7) nd rfl (by first | exact Or.inl rfl | exact Or.inr rfl) (e_mod (e_int rfl z_int (sa_cons (e_add (e_add (e_mul (se_var (pv 7)) se_int) (e_mul se_int (se_var (pv 6)))) se_int) sa_nil)) se_int))
  (ss_one (ss_expr (e_append (se_var (pv 3)) (sa_cons (e_mod (e_int rfl z_int (sa_cons (e_fdiv (se_var (pv 7)) se_int) sa_nil)) se_int) sa_nil)))))))))))))
  (ss_one (ss_ret (se_var (pv 3))))))
abbrev s__law_draw : Stmt := top 16
abbrev N__law_draw : List Str := ["box", "many", "at"]
theorem sc__law_draw : FnScope N__law_draw ["box", "many"] (defScope s__law_draw) := ⟨rfl, rfl, rfl, by decide +kernel, rfl, by decide +kernel, by decide +kernel⟩
theorem d__law_draw {P : Program} {w : World} {K : PySem.W.Frag} {mg : Str → Option Value} {base : Heap} {k : Nat}   (z_len : mg "len" = none) (z_int : mg "int" = none) (f : Addr) (cdv : Value) (A : Around) (outer : List Env) (s : Shared) (H : Hp) (E : XK) (hr : Room k (A.deeper (PyProof.Rows.envOfC "_law_draw" (defScope s__law_draw) s.heap.objs.size f cdv))) :
    PSs (cxOf CX0 P w K mg base N__law_draw "_law_draw" (defScope s__law_draw) f cdv A outer s H E).nox (defBody s__law_draw) (rdS K w (b__law_draw )) := by
  have nd := sc__law_draw.nd
  exact (ss_cons (ss_set (i := 2) nd rfl (by first | exact Or.inl rfl | exact Or.inr rfl) (e_ix (se_var (pv 0)) se_int))
  (ss_cons (ss_setIx (e_add (se_var (pv 2)) se_int) (se_var (pv 0)) se_int (hpg := pg_sub (se_var (pv 0)) se_int set_list))
  (ss_cons (ss_if (t_cmp cm_lt (se_var (pv 2)) (e_len rfl z_len (sa_cons (e_ix (se_var (pv 0)) se_int) sa_nil))) (ss_one (ss_ret (e_mod (e_int rfl z_int (sa_cons (e_ix (e_ix (se_var (pv 0)) se_int) (se_var (pv 2))) sa_nil)) (se_var (pv 1))))) ss_nil)
  (ss_one (ss_ret se_int)))))
abbrev s__law_same : Stmt := top 17
abbrev N__law_same : List Str := ["actual", "due", "k"]
theorem sc__law_same : FnScope N__law_same ["actual", "due"] (defScope s__law_same) := ⟨rfl, rfl, rfl, by decide +kernel, rfl, by decide +kernel, by decide +kernel⟩
theorem d__law_same {P : Program} {w : World} {K : PySem.W.Frag} {mg : Str → Option Value} {base : Heap} {k : Nat} {p__law_same : Fx} (C__law_same : Cal P w K mg base k "_law_same" ["actual", "due"] p__law_same)  (z_isinstance : mg "isinstance" = none) (z_list : mg "list" = none) (z_tuple : mg "tuple" = none) (z_len : mg "len" = none) (z_range : mg "range" = none) (z_bool : mg "bool" = none) (z_str : mg "str" = none) (z_int : mg "int" = none) (f : Addr) (cdv : Value) (A : Around) (outer : List Env) (s : Shared) (H : Hp) (E : XK) (hr : Room k (A.deeper (PyProof.Rows.envOfC "_law_same" (defScope s__law_same) s.heap.objs.size f cdv))) :
    PSs (cxOf CX0 P w K mg base N__law_same "_law_same" (defScope s__law_same) f cdv A outer s H E).nox (defBody s__law_same) (rdS K w (b__law_same p__law_same)) := by
  have nd := sc__law_same.nd
  exact (ss_cons (ss_if (PW.pt (sw_or (st_tru (e_isi kit_list rfl z_isinstance rfl z_list (by decide +kernel) (se_var (pv 1)))) (sw_or1 (st_tru (e_isi kit_tuple rfl z_isinstance rfl z_tuple (by decide +kernel) (se_var (pv 1))))))) (ss_cons (ss_if (PW.pt (sw_or (t_cmp (cm_ne (r64 hr)) (e_isi kit_list rfl z_isinstance rfl z_list (by decide +kernel) (se_var (pv 1))) (e_isi kit_list rfl z_isinstance rfl z_list (by decide +kernel) (se_var (pv 0)))) (sw_or1 (t_cmp (cm_ne (r64 hr)) (e_isi kit_tuple rfl z_isinstance rfl z_tuple (by decide +kernel) (se_var (pv 1))) (e_isi kit_tuple rfl z_isinstance rfl z_tuple (by decide +kernel) (se_var (pv 0))))))) (ss_one (ss_ret se_bl)) ss_nil)
  (ss_cons (ss_if (t_cmp (cm_ne (r64 hr)) (e_len rfl z_len (sa_cons (se_var (pv 0)) sa_nil)) (e_len rfl z_len (sa_cons (se_var (pv 1)) sa_nil))) (ss_one (ss_ret se_bl)) ss_nil)
  (ss_cons (ss_for PassesOwn.never rfl (si_rng1 rfl z_range (sa_cons (e_len rfl z_len (sa_cons (se_var (pv 1)) sa_nil)) sa_nil)) (pg_name (i := 2) nd rfl (by first | exact Or.inl rfl | exact Or.inr rfl)) ok_name (ss_one (ss_if (st_not (st_tru (e_call C__law_same hr rfl (sa_cons (e_ix (se_var (pv 0)) (se_var (pv 2))) (sa_cons (e_ix (se_var (pv 1)) (se_var (pv 2))) sa_nil))))) (ss_one (ss_ret se_bl)) ss_nil)))
  (ss_one (ss_ret se_bl))))) ss_nil)
  (ss_cons (ss_if (t_cmp cm_isN (se_var (pv 1)) se_non) (ss_one (ss_ret (e_cmp cm_isN (se_var (pv 0)) se_non))) ss_nil)
  (ss_cons (ss_if (st_tru (e_isi kit_bool rfl z_isinstance rfl z_bool (by decide +kernel) (se_var (pv 1)))) (ss_one (ss_ret (se_and (e_isi kit_bool rfl z_isinstance rfl z_bool (by decide +kernel) (se_var (pv 0))) (se_one (e_cmp (cm_eq (r64 hr)) (se_var (pv 0)) (se_var (pv 1))))))) ss_nil)
  (ss_cons (ss_if (st_tru (e_isi kit_str rfl z_isinstance rfl z_str (by decide +kernel) (se_var (pv 1)))) (ss_one (ss_ret (se_and (e_isi kit_str rfl z_isinstance rfl z_str (by decide +kernel) (se_var (pv 0))) (se_one (e_cmp (cm_eq (r64 hr)) (se_var (pv 0)) (se_var (pv 1))))))) ss_nil)
  (ss_one (ss_ret (se_and (e_isi kit_int rfl z_isinstance rfl z_int (by decide +kernel) (se_var (pv 0))) (se_and (se_not (e_isi kit_bool rfl z_isinstance rfl z_bool (by decide +kernel) (se_var (pv 0)))) (se_one (e_cmp (cm_eq (r64 hr)) (se_var (pv 0)) (se_var (pv 1))))))))))))
abbrev s__law_due : Stmt := top 18
abbrev N__law_due : List Str := ["text", "letters", "reserved", "char"]
theorem sc__law_due : FnScope N__law_due ["text"] (defScope s__law_due) := ⟨rfl, rfl, rfl, by decide +kernel, rfl, by decide +kernel, by decide +kernel⟩
theorem d__law_due {P : Program} {w : World} {K : PySem.W.Frag} {mg : Str → Option Value} {base : Heap} {k : Nat}   (z_len : mg "len" = none) (f : Addr) (cdv : Value) (A : Around) (outer : List Env) (s : Shared) (H : Hp) (E : XK) (hr : Room k (A.deeper (PyProof.Rows.envOfC "_law_due" (defScope s__law_due) s.heap.objs.size f cdv))) :
    PSs (cxOf CX0 P w K mg base N__law_due "_law_due" (defScope s__law_due) f cdv A outer s H E).nox (defBody s__law_due) (rdS K w (b__law_due )) := by
  have nd := sc__law_due.nd
  exact (ss_cons (ss_set (i := 1) nd rfl (by first | exact Or.inl rfl | exact Or.inr rfl) se_str)
  (ss_cons (ss_set (i := 2) nd rfl (by first | exact Or.inl rfl | exact Or.inr rfl) (se_lst (sa_cons se_str (sa_cons se_str (sa_cons se_str (sa_cons se_str (sa_cons se_str (sa_cons se_str (sa_cons se_str (sa_cons se_str (sa_cons se_str (sa_cons se_str (sa_cons se_str (sa_cons se_str (sa_cons se_str (sa_cons se_str (sa_cons se_str (sa_cons se_str (sa_cons se_str (sa_cons se_str (sa_cons se_str (sa_cons se_str (sa_cons se_str (sa_cons se_str (sa_cons se_str (sa_cons se_str (sa_cons se_str sa_nil)))))))))))))))))))))))))))
  (ss_cons (ss_if (PW.pt (sw_or (t_cmp (cm_in (r65 hr)) (se_var (pv 0)) (se_var (pv 2))) (sw_or (t_cmp (cm_in (r65 hr)) (se_var (pv 0)) (se_lst (sa_cons se_str (sa_cons se_str (sa_cons se_str (sa_cons se_str sa_nil)))))) (sw_or (t_cmp cm_lt (e_len rfl z_len (sa_cons (se_var (pv 0)) sa_nil)) se_int) (sw_or (t_cmp cm_gt (e_len rfl z_len (sa_cons (se_var (pv 0)) sa_nil)) se_int) (sw_or1 (t_cmp (cm_notin (r65 hr)) (e_ix (se_var (pv 0)) se_int) (se_var (pv 1))))))))) (ss_one (ss_ret se_bl)) ss_nil)
  (ss_cons (ss_for PassesOwn.never rfl (si_any (se_var (pv 0))) (pg_name (i := 3) nd rfl (by first | exact Or.inl rfl | exact Or.inr rfl)) ok_name (ss_one (ss_if (t_cmp (cm_notin (r65 hr)) (se_var (pv 3)) (e_add (se_var (pv 1)) se_str)) (ss_one (ss_ret se_bl)) ss_nil)))
  (ss_one (ss_ret se_bl))))))
abbrev s_law : Stmt := top 19
abbrev N_law : List Str := ["script", "box", "words", "turn", "text", "k", "change", "at"]
theorem sc_law : FnScope N_law ["script"] (defScope s_law) := ⟨rfl, rfl, rfl, by decide +kernel, rfl, by decide +kernel, by decide +kernel⟩
theorem d_law {P : Program} {w : World} {K : PySem.W.Frag} {mg : Str → Option Value} {base : Heap} {k : Nat} {p__law_digits : Fx} (C__law_digits : Cal P w K mg base k "_law_digits" ["script", "first", "last"] p__law_digits) {p__law_draw : Fx} (C__law_draw : Cal P w K mg base k "_law_draw" ["box", "many"] p__law_draw) {p__law_same : Fx} (C__law_same : Cal P w K mg base k "_law_same" ["actual", "due"] p__law_same) {p__law_due : Fx} (C__law_due : Cal P w K mg base k "_law_due" ["text"] p__law_due) {p_is_name : Fx} (C_is_name : Cal P w K mg base k "is_name" ["text"] p_is_name)  (z_range : mg "range" = none) (z_len : mg "len" = none) (f : Addr) (cdv : Value) (A : Around) (outer : List Env) (s : Shared) (H : Hp) (E : XK) (hr : Room k (A.deeper (PyProof.Rows.envOfC "law" (defScope s_law) s.heap.objs.size f cdv))) :
    PSs (cxOf CX0 P w K mg base N_law "law" (defScope s_law) f cdv A outer s H E).nox (defBody s_law) (rdS K w (b_law p__law_digits p__law_draw p__law_same p__law_due p_is_name)) := by
  have nd := sc_law.nd
  exact (ss_cons (ss_set (i := 1) nd rfl (by first | exact Or.inl rfl | exact Or.inr rfl) (se_lst (sa_cons (e_call C__law_digits hr rfl (sa_cons (se_var (pv 0)) (sa_cons se_int (sa_cons se_int sa_nil)))) (sa_cons se_int sa_nil))))
  (ss_cons (ss_set (i := 2) nd rfl (by first | exact Or.inl rfl | exact Or.inr rfl) (se_lst (sa_cons se_str (sa_cons se_str (sa_cons se_str (sa_cons se_str (sa_cons se_str (sa_cons se_str (sa_cons se_str (sa_cons se_str (sa_cons se_str (sa_cons se_str (sa_cons se_str (sa_cons se_str (sa_cons se_str (sa_cons se_str (sa_cons se_str (sa_cons se_str (sa_cons se_str (sa_cons se_str (sa_cons se_str (sa_cons se_str (sa_cons se_str (sa_cons se_str (sa_cons se_str (sa_cons se_str (sa_cons se_str (sa_cons se_str (sa_cons se_str (sa_cons se_str (sa_cons se_str (sa_cons se_str (sa_cons se_str sa_nil)))))))))))))))))))))))))))))))))
  (ss_cons (ss_for PassesOwn.never rfl (si_rng1 rfl z_range (sa_cons se_int sa_nil)) (pg_name (i := 3) nd rfl (by first | exact Or.inl rfl | exact Or.inr rfl)) ok_name (ss_cons (ss_set (i := 4) nd rfl (by first | exact Or.inl rfl | exact Or.inr rfl) (e_ix (se_var (pv 2)) (e_call C__law_draw hr rfl (sa_cons (se_var (pv 1)) (sa_cons se_int sa_nil)))))
  (ss_cons (ss_if (t_cmp (cm_eq (r64 hr)) (e_call C__law_draw hr rfl (sa_cons (se_var (pv 1)) (sa_cons se_int sa_nil))) se_int) (ss_cons (ss_set (i := 4) nd rfl (by first | exact Or.inl rfl | exact Or.inr rfl) se_str)
  (ss_one (ss_for PassesOwn.never rfl (si_rng1 rfl z_range (sa_cons (e_add se_int (e_call C__law_draw hr rfl (sa_cons (se_var (pv 1)) (sa_cons se_int sa_nil)))) sa_nil)) (pg_name (i := 5) nd rfl (by first | exact Or.inl rfl | exact Or.inr rfl)) ok_name (ss_one (ss_set (i := 4) nd rfl (by first | exact Or.inl rfl | exact Or.inr rfl) (e_add (se_var (pv 4)) (e_ix se_str (e_call C__law_draw hr rfl (sa_cons (se_var (pv 1)) (sa_cons se_int sa_nil)))))))))) ss_nil)
  (ss_cons (ss_set (i := 6) nd rfl (by first | exact Or.inl rfl | exact Or.inr rfl) (e_call C__law_draw hr rfl (sa_cons (se_var (pv 1)) (sa_cons se_int sa_nil))))
  (ss_cons (ss_set (i := 7) nd rfl (by first | exact Or.inl rfl | exact Or.inr rfl) (e_call C__law_draw hr rfl (sa_cons (se_var (pv 1)) (sa_cons (e_add (e_len rfl z_len (sa_cons (se_var (pv 4)) sa_nil)) se_int) sa_nil))))
  (ss_cons (ss_if (t_cmp (cm_eq (r64 hr)) (se_var (pv 6)) se_int) (ss_one (ss_set (i := 4) nd rfl (by first | exact Or.inl rfl | exact Or.inr rfl) (e_add (e_add (e_slice (se_var (pv 4)) so_none (so_some (se_var (pv 7)))) (e_ix se_str (e_call C__law_draw hr rfl (sa_cons (se_var (pv 1)) (sa_cons se_int sa_nil))))) (e_slice (se_var (pv 4)) (so_some (se_var (pv 7))) so_none)))) ss_nil)
  (ss_one (ss_if (st_not (st_tru (e_call C__law_same hr rfl (sa_cons (e_call C_is_name hr rfl (sa_cons (se_var (pv 4)) sa_nil)) (sa_cons (e_call C__law_due hr rfl (sa_cons (se_var (pv 4)) sa_nil)) sa_nil))))) (ss_one (ss_ret se_bl)) ss_nil))))))))
  (ss_one (ss_ret se_bl)))))
inductive Nm where
  | n_tokens | n__token_at | n__run_at | n__is_number | n_is_name | n__law_cell | n__law_digits | n__law_draw | n__law_same | n__law_due
def T : Nat → Nm → Fx
  | 0, _ => fun _ _ => none
  | n + 1, .n_tokens => f_tokens (T n .n__token_at)
  | n + 1, .n__token_at => f__token_at (T n .n__run_at) (T n .n__is_number)
  | n + 1, .n__run_at => f__run_at 
  | n + 1, .n__is_number => f__is_number 
  | n + 1, .n_is_name => f_is_name (T n .n_tokens)
  | n + 1, .n__law_cell => f__law_cell 
  | n + 1, .n__law_digits => f__law_digits (T n .n__law_cell)
  | n + 1, .n__law_draw => f__law_draw 
  | n + 1, .n__law_same => f__law_same (T n .n__law_same)
  | n + 1, .n__law_due => f__law_due 
structure Tops (w : World) (K : PySem.W.Frag) (mg : Str → Option Value) : Prop where
  o_tokens : Def K mg "tokens" s_tokens ["line"]
  o__token_at : Def K mg "_token_at" s__token_at ["line", "at"]
  o__run_at : Def K mg "_run_at" s__run_at ["line", "at", "characters"]
  o__is_number : Def K mg "_is_number" s__is_number ["digits"]
  o_is_name : Def K mg "is_name" s_is_name ["text"]
  o__law_cell : Def K mg "_law_cell" s__law_cell ["script", "k"]
  o__law_digits : Def K mg "_law_digits" s__law_digits ["script", "first", "last"]
  o__law_draw : Def K mg "_law_draw" s__law_draw ["box", "many"]
  o__law_same : Def K mg "_law_same" s__law_same ["actual", "due"]
  o__law_due : Def K mg "_law_due" s__law_due ["text"]
  k_DIGITS : Con K mg "DIGITS" c_DIGITS
  k_LETTERS : Con K mg "LETTERS" c_LETTERS
  k_LONGEST_WORD : Con K mg "LONGEST_WORD" c_LONGEST_WORD
  k_SIGNS : Con K mg "SIGNS" c_SIGNS
  k_REGISTERS : Con K mg "REGISTERS" c_REGISTERS
  k_RESERVED : Con K mg "RESERVED" c_RESERVED
  z_len : mg "len" = none
  z_range : mg "range" = none
  z_int : mg "int" = none
  z_isinstance : mg "isinstance" = none
  z_list : mg "list" = none
  z_tuple : mg "tuple" = none
  z_bool : mg "bool" = none
  z_str : mg "str" = none
structure All (P : Program) (w : World) (K : PySem.W.Frag) (mg : Str → Option Value) (base : Heap) (n : Nat) : Prop where
  a_tokens : Cal P w K mg base n "tokens" ["line"] (T n .n_tokens)
  a__token_at : Cal P w K mg base n "_token_at" ["line", "at"] (T n .n__token_at)
  a__run_at : Cal P w K mg base n "_run_at" ["line", "at", "characters"] (T n .n__run_at)
  a__is_number : Cal P w K mg base n "_is_number" ["digits"] (T n .n__is_number)
  a_is_name : Cal P w K mg base n "is_name" ["text"] (T n .n_is_name)
  a__law_cell : Cal P w K mg base n "_law_cell" ["script", "k"] (T n .n__law_cell)
  a__law_digits : Cal P w K mg base n "_law_digits" ["script", "first", "last"] (T n .n__law_digits)
  a__law_draw : Cal P w K mg base n "_law_draw" ["box", "many"] (T n .n__law_draw)
  a__law_same : Cal P w K mg base n "_law_same" ["actual", "due"] (T n .n__law_same)
  a__law_due : Cal P w K mg base n "_law_due" ["text"] (T n .n__law_due)
theorem all_ok {P : Program} {w : World} {K : PySem.W.Frag} {mg : Str → Option Value} {base : Heap} (t : Tops w K mg) : ∀ n, All P w K mg base n
  | 0 => ⟨cal_zero t.o_tokens, cal_zero t.o__token_at, cal_zero t.o__run_at, cal_zero t.o__is_number, cal_zero t.o_is_name, cal_zero t.o__law_cell, cal_zero t.o__law_digits, cal_zero t.o__law_draw, cal_zero t.o__law_same, cal_zero t.o__law_due⟩
  | n + 1 => by
    have a : All P w K mg base n := all_ok t n
    exact ⟨cal_ok (N := N_tokens) t.o_tokens sc_tokens (by decide) (d_tokens a.a__token_at t.z_len),
      cal_ok (N := N__token_at) t.o__token_at sc__token_at (by decide) (d__token_at a.a__run_at a.a__is_number t.k_DIGITS t.k_LETTERS t.k_LONGEST_WORD t.k_SIGNS t.z_len),
      cal_ok (N := N__run_at) t.o__run_at sc__run_at (by decide) (d__run_at t.z_len),
      cal_ok (N := N__is_number) t.o__is_number sc__is_number (by decide) (d__is_number t.z_len),
      cal_ok (N := N_is_name) t.o_is_name sc_is_name (by decide) (d_is_name a.a_tokens t.k_REGISTERS t.k_RESERVED),
      cal_ok (N := N__law_cell) t.o__law_cell sc__law_cell (by decide) (d__law_cell t.z_len),
      cal_ok (N := N__law_digits) t.o__law_digits sc__law_digits (by decide) (d__law_digits a.a__law_cell t.z_range t.z_int),
      cal_ok (N := N__law_draw) t.o__law_draw sc__law_draw (by decide) (d__law_draw t.z_len t.z_int),
      cal_ok (N := N__law_same) t.o__law_same sc__law_same (by decide) (d__law_same a.a__law_same t.z_isinstance t.z_list t.z_tuple t.z_len t.z_range t.z_bool t.z_str t.z_int),
      cal_ok (N := N__law_due) t.o__law_due sc__law_due (by decide) (d__law_due t.z_len)⟩
abbrev FUEL : Nat := 12
theorem fin_ok {P : Program} {w : World} {h : Heap} {K : PySem.W.Frag} {mg : Str → Option Value} (X : K.In h) (G : h.Ns mainGlobals mg) (t : Tops w K mg) (ld : LawDef K mg s_law) : LawDef K mg s_law ∧ ∀ (base : Heap) (f : Addr) (cdv : Value) (A : Around) (outer : List PySem.Env) (s : Shared) (H : Hp) (E : XK), Room FUEL (A.deeper (PyProof.Rows.envOfC "law" (defScope s_law) s.heap.objs.size f cdv)) →
      PSs (cxOf CX0 P w K mg base N_law "law" (defScope s_law) f cdv A outer s H E).nox (defBody s_law) (rdS K w (b_law (T FUEL .n__law_digits) (T FUEL .n__law_draw) (T FUEL .n__law_same) (T FUEL .n__law_due) (T FUEL .n_is_name))) :=
  ⟨ld, fun base f cdv A outer s H E hr => d_law (all_ok t FUEL).a__law_digits (all_ok t FUEL).a__law_draw (all_ok t FUEL).a__law_same (all_ok t FUEL).a__law_due (all_ok t FUEL).a_is_name t.z_range t.z_len f cdv A outer s H E hr⟩
theorem law_true : ∀ ns : List Int, ns.length ≤ 63 → ∃ st', runF N_law.length 1 (b_law (T FUEL .n__law_digits) (T FUEL .n__law_draw) (T FUEL .n__law_same) (T FUEL .n__law_due) (T FUEL .n_is_name)) [.loc 0] [.frz (ns.map .int)] = some (.bl true, st') :=
  k07_law (fun st n ns h => digits_ok (φ := T 11 .n__law_cell) h fun st k h => cell_ok h k)
    (fun st b m h hm => draw_ok h hm)
    (fun st a b h => same_ok (F := fun n => T n .n__law_same) (fun _ => rfl) 11 a b (sm_le h (by decide)))
    (fun x hl st => due_ok x hl st)
    (fun x hl hx st => is_name_ok (pt := T 11 .n_tokens) (fun x st hl => tokens_ok (pt := T 10 .n__token_at) (fun x a c r hl hd st => token_at_ok (pr := f__run_at) (pn := f__is_number) (fun x y a st hl ha => run_at_ok x y a st hl ha) (fun l hne hl st => is_number_ok l hne hl st) x a c r hl hd st) x hl st) x hl hx st)
end Lw
open PySem PySem.W PyProof.Rows in
set_option maxRecDepth 100000 in
set_option maxHeartbeats 0 in
theorem PySem.Challenge.cw_everyturn_k07_names_holds : PySem.Challenge.rw_everyturn_k07_names.Holds := by
  w_on; o_law; k_head; (case hw => w_witness2)
  k_fill
  refine Iv.walk (l := PySem.Challenge.rw_everyturn_k07_names) (k := Lw.FUEL) (N := Lw.N_law) (st := Lw.s_law) (body := Lw.b_law (Lw.T Lw.FUEL .n__law_digits) (Lw.T Lw.FUEL .n__law_draw) (Lw.T Lw.FUEL .n__law_same) (Lw.T Lw.FUEL .n__law_due) (Lw.T Lw.FUEL .n_is_name)) rfl rfl rfl ⟨rfl, by decide, by decide⟩ Lw.sc_law (by decide) (fun w h Y => PySem.W.kIn_of Y) Lw.law_true ?B
  case B =>
    intro w mg h KX G
    refine' Lw.fin_ok KX G ⟨?o_tokens, ?o__token_at, ?o__run_at, ?o__is_number, ?o_is_name, ?o__law_cell, ?o__law_digits, ?o__law_draw, ?o__law_same, ?o__law_due, ?k_DIGITS, ?k_LETTERS, ?k_LONGEST_WORD, ?k_SIGNS, ?k_REGISTERS, ?k_RESERVED, ?z_len, ?z_range, ?z_int, ?z_isinstance, ?z_list, ?z_tuple, ?z_bool, ?z_str⟩ ?ld
    case o_tokens =>
      refine' Iv.def_mk KX G ?a ?l ?c ?k (fun _ _ _ _ _ _ us hl => match us, hl with | [_], _ => rfl)
      (case a => k_is)
      (case l => k_is)
      (case c => k_is)
      (case k => k_is)
    case o__token_at =>
      refine' Iv.def_mk KX G ?a ?l ?c ?k (fun _ _ _ _ _ _ us hl => match us, hl with | [_, _], _ => rfl)
      (case a => k_is)
      (case l => k_is)
      (case c => k_is)
      (case k => k_is)
    case o__run_at =>
      refine' Iv.def_mk KX G ?a ?l ?c ?k (fun _ _ _ _ _ _ us hl => match us, hl with | [_, _, _], _ => rfl)
      (case a => k_is)
      (case l => k_is)
      (case c => k_is)
      (case k => k_is)
    case o__is_number =>
      refine' Iv.def_mk KX G ?a ?l ?c ?k (fun _ _ _ _ _ _ us hl => match us, hl with | [_], _ => rfl)
      (case a => k_is)
      (case l => k_is)
      (case c => k_is)
      (case k => k_is)
    case o_is_name =>
      refine' Iv.def_mk KX G ?a ?l ?c ?k (fun _ _ _ _ _ _ us hl => match us, hl with | [_], _ => rfl)
      (case a => k_is)
      (case l => k_is)
      (case c => k_is)
      (case k => k_is)
    case o__law_cell =>
      refine' Iv.def_mk KX G ?a ?l ?c ?k (fun _ _ _ _ _ _ us hl => match us, hl with | [_, _], _ => rfl)
      (case a => k_is)
      (case l => k_is)
      (case c => k_is)
      (case k => k_is)
    case o__law_digits =>
      refine' Iv.def_mk KX G ?a ?l ?c ?k (fun _ _ _ _ _ _ us hl => match us, hl with | [_, _, _], _ => rfl)
      (case a => k_is)
      (case l => k_is)
      (case c => k_is)
      (case k => k_is)
    case o__law_draw =>
      refine' Iv.def_mk KX G ?a ?l ?c ?k (fun _ _ _ _ _ _ us hl => match us, hl with | [_, _], _ => rfl)
      (case a => k_is)
      (case l => k_is)
      (case c => k_is)
      (case k => k_is)
    case o__law_same =>
      refine' Iv.def_mk KX G ?a ?l ?c ?k (fun _ _ _ _ _ _ us hl => match us, hl with | [_, _], _ => rfl)
      (case a => k_is)
      (case l => k_is)
      (case c => k_is)
      (case k => k_is)
    case o__law_due =>
      refine' Iv.def_mk KX G ?a ?l ?c ?k (fun _ _ _ _ _ _ us hl => match us, hl with | [_], _ => rfl)
      (case a => k_is)
      (case l => k_is)
      (case c => k_is)
      (case k => k_is)
    case k_DIGITS =>
      refine' Iv.con_mk KX G ?a ?c
      (case a => k_is)
      (case c => (exact Iv.CV.str))
    case k_LETTERS =>
      refine' Iv.con_mk KX G ?a ?c
      (case a => k_is)
      (case c => (exact Iv.CV.str))
    case k_LONGEST_WORD =>
      refine' Iv.con_mk KX G ?a ?c
      (case a => k_is)
      (case c => (exact Iv.CV.int))
    case k_SIGNS =>
      refine' Iv.con_mk KX G ?a ?c
      (case a => k_is)
      (case c => (exact Iv.CV.str))
    case k_REGISTERS =>
      refine' Iv.con_mk KX G ?a ?c
      (case a => k_is)
      (case c => (refine' Iv.CV.tup ?l1 ?z1 ?h1; (case l1 => k_is); (case z1 => decide); (case h1 => (refine Iv.CVs.cons ?_ ?_; exact Iv.CV.str; refine Iv.CVs.cons ?_ ?_; exact Iv.CV.str; refine Iv.CVs.cons ?_ ?_; exact Iv.CV.str; refine Iv.CVs.cons ?_ ?_; exact Iv.CV.str; exact Iv.CVs.nil))))
    case k_RESERVED =>
      refine' Iv.con_mk KX G ?a ?c
      (case a => k_is)
      (case c => (refine' Iv.CV.tup ?l2 ?z2 ?h2; (case l2 => k_is); (case z2 => decide); (case h2 => (refine Iv.CVs.cons ?_ ?_; exact Iv.CV.str; refine Iv.CVs.cons ?_ ?_; exact Iv.CV.str; refine Iv.CVs.cons ?_ ?_; exact Iv.CV.str; refine Iv.CVs.cons ?_ ?_; exact Iv.CV.str; refine Iv.CVs.cons ?_ ?_; exact Iv.CV.str; refine Iv.CVs.cons ?_ ?_; exact Iv.CV.str; refine Iv.CVs.cons ?_ ?_; exact Iv.CV.str; refine Iv.CVs.cons ?_ ?_; exact Iv.CV.str; refine Iv.CVs.cons ?_ ?_; exact Iv.CV.str; refine Iv.CVs.cons ?_ ?_; exact Iv.CV.str; refine Iv.CVs.cons ?_ ?_; exact Iv.CV.str; refine Iv.CVs.cons ?_ ?_; exact Iv.CV.str; refine Iv.CVs.cons ?_ ?_; exact Iv.CV.str; refine Iv.CVs.cons ?_ ?_; exact Iv.CV.str; refine Iv.CVs.cons ?_ ?_; exact Iv.CV.str; refine Iv.CVs.cons ?_ ?_; exact Iv.CV.str; refine Iv.CVs.cons ?_ ?_; exact Iv.CV.str; refine Iv.CVs.cons ?_ ?_; exact Iv.CV.str; refine Iv.CVs.cons ?_ ?_; exact Iv.CV.str; refine Iv.CVs.cons ?_ ?_; exact Iv.CV.str; refine Iv.CVs.cons ?_ ?_; exact Iv.CV.str; refine Iv.CVs.cons ?_ ?_; exact Iv.CV.str; refine Iv.CVs.cons ?_ ?_; exact Iv.CV.str; refine Iv.CVs.cons ?_ ?_; exact Iv.CV.str; refine Iv.CVs.cons ?_ ?_; exact Iv.CV.str; exact Iv.CVs.nil))))
    case z_len =>
      refine' PySem.W.mg_none_of KX G ?c
      (case c => k_is)
    case z_range =>
      refine' PySem.W.mg_none_of KX G ?c
      (case c => k_is)
    case z_int =>
      refine' PySem.W.mg_none_of KX G ?c
      (case c => k_is)
    case z_isinstance =>
      refine' PySem.W.mg_none_of KX G ?c
      (case c => k_is)
    case z_list =>
      refine' PySem.W.mg_none_of KX G ?c
      (case c => k_is)
    case z_tuple =>
      refine' PySem.W.mg_none_of KX G ?c
      (case c => k_is)
    case z_bool =>
      refine' PySem.W.mg_none_of KX G ?c
      (case c => k_is)
    case z_str =>
      refine' PySem.W.mg_none_of KX G ?c
      (case c => k_is)
    case ld =>
      refine' Iv.lawdef_mk KX G ?a ?l ?c ?k ?b
      (case a => k_is)
      (case l => k_is)
      (case c => k_is)
      (case k => k_is)
      (case b => intro _ _ _ _ _ _ u; rfl)
