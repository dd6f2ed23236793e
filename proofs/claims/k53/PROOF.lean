import PyProof.Rows.All
import Wide.All
import OpenK.AllK
import Wide.FinOn
import HandS.ForMost
import HandS.Flow
import HandS.Wide
import HandS.IsInst
import HandS.TupAny
import HandS.Deep
import KE.KeyNested
import HandS.Strs
import HandS.StrMore
import HandS.More
import HandS.FStr
import HandS.Star
import HandS.RaiseMore
import HandS.ReCall
import HandS.Set
import HandS.SetBool
import PyProof.Rows.SortShellAny
import HandS.Zip
import HandS.RevRange
import HandS.SetFor
import HandS.SortInts
import PyProof.Rows.StrMeet
import KE.GoesMore
import HandS.List
import HandS.ExcInit
import HandS.ExcCtx
import HandS.ExcField
import HandS.HotCalls
import HandS.ExcInitHot
import HandS.Style
import PySem.Challenge.RW_everyturn_k53_guarded_programs
set_option Elab.async false
set_option linter.all false
set_option maxRecDepth 100000
set_option maxHeartbeats 4000000
/-! Iv: sets whose members are ints and texts, in the machine's heap, their table rising so that they can be walked. -/
namespace Iv
open PySem L2 PySem.Spec PyProof.Rows

def kyOf : Value → Key
  | .int k _ => .inl k
  | .str x _ => .inr x
  | _ => .inl 0
def Ent (w : World) (e : Int × Value) : Prop := keyIs (kyOf e.2) e.2 = true ∧ e.1 = keyH w (kyOf e.2)
def hasK (ks : List Key) (k : Key) : Bool := ks.any fun j => decide (j = k)
theorem hasK_iff {ks : List Key} {k : Key} : hasK ks k = true ↔ k ∈ ks := by
  unfold hasK
  rw [List.any_eq_true]
  exact ⟨fun ⟨j, h1, h2⟩ => by rw [← of_decide_eq_true h2]; exact h1, fun h => ⟨k, h, decide_eq_true rfl⟩⟩
def addK (ks : List Key) (k : Key) : List Key := if hasK ks k = true then ks else ks ++ [k]
def kyE (e : Int × Value) : Key := kyOf e.2
/-- the set at a holds just these keys, in some order -/
def KSet (w : World) (h : Heap) (a : Addr) (ks : List Key) : Prop :=
  ∃ ob es ep tb, (h.get? a = some ob ∧ ob.ExactSet ∧ ob.data = .set es ep tb) ∧ ((∀ x ∈ es.toList, Ent w x) ∧ (es.toList.map kyE).Perm ks ∧ ks.Nodup) ∧
    es.size < scanBound ∧ tb.fits es.size = true ∧ Ris tb.place.toList ∧ (w.params.followText "set-order" = true ∨ tb.led = true)
theorem kyOf_of {k : Key} {u : Value} (h : keyIs k u = true) : kyOf u = k := by
  rcases keyIs_shape h with ⟨i, t, rfl, rfl⟩ | ⟨x, t, rfl, rfl⟩ <;> rfl
theorem key_scannable {k : Key} {u : Value} (h : keyIs k u = true) : u.scannable = true := by
  rcases keyIs_shape h with ⟨i, t, rfl, rfl⟩ | ⟨x, t, rfl, rfl⟩ <;> rfl
theorem ent_is {w : World} {x : Int × Value} (g : Ent w x) (k : Key) : keyIs k x.2 = true ↔ kyE x = k :=
  ⟨fun h => kyOf_of h, fun h => by rw [← h]; exact g.1⟩
theorem ent_elems {P : Program} {w : World} {l : List (Int × Value)} (g : ∀ x ∈ l, Ent w x) : ElemsOf (mixKind P w) l :=
  fun x hx => ⟨⟨kyE x, (g x hx).1, (g x hx).2⟩, key_scannable (g x hx).1⟩
theorem ent_mem {w : World} {l : List (Int × Value)} (g : ∀ x ∈ l, Ent w x) (k : Key) : k ∈ l.map kyE ↔ ∃ x ∈ l, keyIs k x.2 = true := by
  rw [List.mem_map]
  exact ⟨fun ⟨x, hx, q⟩ => ⟨x, hx, (ent_is (g x hx) k).2 q⟩, fun ⟨x, hx, q⟩ => ⟨x, hx, (ent_is (g x hx) k).1 q⟩⟩
section
variable {P : Program} {w : World} {h h' : Heap} {a : Addr} {ks : List Key}
theorem KSet.keep (R : KSet w h a ks) (k : ∀ o, h.get? a = some o → h'.get? a = some o) : KSet w h' a ks := by
  obtain ⟨ob, es, ep, tb, ⟨e1, e2⟩, r⟩ := R
  exact ⟨ob, es, ep, tb, ⟨k ob e1, e2⟩, r⟩
theorem KSet.size {es : Array (Int × Value)} (p : (es.toList.map kyE).Perm ks) : es.size = ks.length := by
  have := p.length_eq
  rw [List.length_map, Array.length_toList] at this
  exact this
theorem KSet.setOf (R : KSet w h a ks) : h.SetOf (mixKind P w) a (hasK ks) ks.length := by
  obtain ⟨ob, es, ep, tb, ⟨e1, e2, e3⟩, ⟨g, p, _⟩, b, f, _⟩ := R
  refine ⟨ob, es, ep, tb, e1, e2, e3, ent_elems g, fun k => ?_, b, f, KSet.size p⟩
  rw [hasK_iff, ← p.mem_iff, ent_mem g]
  exact Iff.rfl
theorem KSet.perm {ls : List Key} (R : KSet w h a ks) (p : ks.Perm ls) : KSet w h a ls := by
  obtain ⟨ob, es, ep, tb, r, ⟨g, q, n⟩, z⟩ := R
  exact ⟨ob, es, ep, tb, r, ⟨g, q.trans p, p.nodup_iff.mp n⟩, z⟩
end
section
variable {P : Program} {w : World} {A : Around} {E : Value → Shared → Prop} {s : Shared} {a : Addr} {ks : List Key}
theorem put_at {h : Heap} {ob : Obj} {es es2 : Array (Int × Value)} {ep : Nat} {tb tb2 : SetTable} (e1 : h.get? a = some ob) (e3 : ob.data = .set es ep tb) :
    (h.update a (Obj.putSet es2 tb2)).get? a = some { ob with data := .set es2 (ep + 1) tb2 } := by
  have z := putSet_of es2 tb2 e3
  have q := Heap.get?_update_self (Obj.putSet es2 tb2) e1 (by rw [z]; rfl)
  rwa [z] at q
/-- what stands behind the new member's place: the table laid again if it is too full -/
theorem kset_tail {gv : Bool → Sem Unit} (hgv : ∀ (b : Bool) (s1 : Shared) (Z : Unit → Shared → Prop), Z () s1 → wpAny (model P w) A (gv b) Z E s1)
    {ob : Obj} {es : Array (Int × Value)} {ep : Nat} {tb : SetTable} (e1 : s.heap.get? a = some ob) (e2 : ob.ExactSet) (e3 : ob.data = .set es ep tb)
    {es2 : Array (Int × Value)} {tb2 : SetTable} (g : ∀ x ∈ es2.toList, Ent w x) (p : (es2.toList.map kyE).Perm ks) (nd : ks.Nodup)
    (b2 : es2.size < scanBound) (f2 : tb2.fits es2.size = true) (r2 : Ris tb2.place.toList) (l2 : w.params.followText "set-order" = true ∨ tb2.led = true) {wd : Bool} {R : Option Bool → Shared → Prop}
    (hR : ∀ h', Heap.SameBut a s.heap h' → KSet w h' a ks → R (some true) { s with heap := h' }) :
    wpAny (model P w) A (storeSet a es2 tb2 >>= fun _ => if (!wd && tb2.tooFull) = true then
        gv (relayAll tb2 es2 (SetTable.grown es2.size)).2.2 >>= fun _ => storeSet a (relayAll tb2 es2 (SetTable.grown es2.size)).1 (relayAll tb2 es2 (SetTable.grown es2.size)).2.1 >>= fun _ => pure (some true)
      else pure (some true)) R E s := by
  refine wpAny_bind (wpAny_storeSet_of e1 e3 ?_ (fits_of_scanBound b2))
  have at1 := put_at (a := a) (es2 := es2) (tb2 := tb2) e1 e3
  have sb := Heap.SameBut.update s.heap a (Obj.putSet es2 tb2)
  split
  · have pm := relayAll_perm tb2 es2 (SetTable.grown es2.size)
    have f3 := relayAll_fits tb2 es2 (SetTable.grown es2.size)
    have r3 := relayAll_ris tb2 es2 (SetTable.grown es2.size)
    have l3 := relayAll_led tb2 es2 (SetTable.grown es2.size)
    revert pm f3 r3 l3
    generalize relayAll tb2 es2 (SetTable.grown es2.size) = Z
    obtain ⟨es3, tb3, gave⟩ := Z
    intro pm f3 r3 l3
    have sz : es3.size = es2.size := by simpa using pm.length_eq
    have b3 : es3.size < scanBound := sz ▸ b2
    refine wpAny_bind (hgv _ _ _ (wpAny_bind (wpAny_storeSet_of at1 rfl ?_ (fits_of_scanBound b3))))
    refine wpAny_pure (hR _ (sb.trans (Heap.SameBut.update _ a _)) ?_)
    refine ⟨_, es3, _, tb3, ⟨put_at at1 rfl, e2, rfl⟩, ⟨fun x hx => g x (pm.mem_iff.mp hx), (pm.map kyE).trans p, nd⟩, b3, f3, r3, ?_⟩
    rcases l2 with z | z
    · exact .inl z
    · exact .inr (l3.trans z)
  · exact wpAny_pure (hR _ sb ⟨_, es2, _, tb2, ⟨at1, e2, rfl⟩, ⟨g, p, nd⟩, b2, f2, r2, l2⟩)
theorem kset_hashed {k : Key} {u : Value} {Q : Bool → Shared → Prop} (hu : keyIs k u = true) (R : KSet w s.heap a ks) (room : ks.length + 1 < scanBound)
    (hQ : ∀ b h', Heap.SameBut a s.heap h' → KSet w h' a (addK ks k) → Q b { s with heap := h' }) :
    wpAny (model P w) A (setAddHashed a u ((mixKind P w).hash k)) Q E s := by
  have R0 := R
  obtain ⟨ob, es, ep, tb, ⟨e1, e2, e3⟩, ⟨g, p, nd⟩, bz, f, r, l⟩ := R
  have hk : (mixKind P w).is k u = true := hu
  have sc := key_scannable hu
  have el : ElemsOf (mixKind P w) es.toList := ent_elems g
  have hn := KSet.size p
  unfold setAddHashed setAddHashedIn
  refine wpAny_holding (wpAny_bind (wpAny_setState_of e1 e3 f ?_))
  dsimp only
  rw [byScan_of sc bz el]
  simp only [↓reduceIte]
  unfold setAddByScan
  refine wpAny_bind (wpAny_bind (wpAny_rule (wpAny_bind (wpAny_setScan_of hk e1 e3 f el ?_))))
  cases fi : List.findIdx? (fun x => (mixKind P w).is k x.2) es.toList with
  | some j =>
    dsimp only
    obtain ⟨hj, pj, _⟩ := List.findIdx?_eq_some_iff_getElem.mp fi
    have mem : k ∈ ks := p.mem_iff.mp ((ent_mem g k).2 ⟨es.toList[j], List.getElem_mem hj, pj⟩)
    refine wpAny_pure (wpAny_pure ?_)
    have q := hQ false s.heap (Heap.SameBut.refl a s.heap)
    rw [addK, if_pos (hasK_iff.mpr mem)] at q
    exact q R0
  | none =>
    dsimp only
    have nmem : k ∉ ks := fun z => by
      obtain ⟨x, hx, q⟩ := (ent_mem g k).1 (p.mem_iff.mpr z)
      have c := List.findIdx?_eq_none_iff.mp fi x hx
      rw [show (mixKind P w).is k x.2 = true from q] at c
      cases c
    rw [addK, if_neg (fun z => nmem (hasK_iff.mp z))] at hQ
    have gw : ∀ (b : Bool) {s1 : Shared} {Z : Unit → Shared → Prop}, Z () s1 → wpAny (model P w) A (match b with | true => rule "set.scan.the-table-gave-way" | false => pure ()) Z E s1 := by
      intro b s1 Z q
      cases b
      · exact wpAny_pure q
      · exact wpAny_rule q
    have pm := layNew_perm tb es ((mixKind P w).hash k) u
    have f1 := layNew_fits tb es ((mixKind P w).hash k) u
    have r1 := layNew_ris tb es ((mixKind P w).hash k) u r
    have l1 := layNew_led tb es ((mixKind P w).hash k) u
    revert pm f1 r1 l1
    generalize layNew tb es ((mixKind P w).hash k) u = Z
    obtain ⟨es1, tb1, wd, gave⟩ := Z
    intro pm f1 r1 l1
    dsimp only at pm f1 r1 l1 ⊢
    rw [Array.toList_push] at pm
    have g1 : ∀ x ∈ es1.toList, Ent w x := fun x hx => by
      rcases List.mem_append.mp (pm.mem_iff.mp hx) with z | z
      · exact g x z
      · rw [List.mem_singleton.mp z]
        exact ⟨by rw [kyOf_of hu]; exact hu, by rw [kyOf_of hu] <;> rfl⟩
    have p1 : (es1.toList.map kyE).Perm (ks ++ [k]) := by
      have q := pm.map kyE
      rw [List.map_append] at q
      have ek : [((mixKind P w).hash k, u)].map kyE = [k] := by
        show [kyOf u] = [k]
        rw [kyOf_of hu]
      rw [ek] at q
      exact q.trans (p.append_right [k])
    have nd1 : (ks ++ [k]).Nodup := by
      rw [(List.perm_append_singleton k ks).nodup_iff]
      exact List.nodup_cons.mpr ⟨nmem, nd⟩
    have b1 : es1.size < scanBound := by
      rw [KSet.size p1, List.length_append]
      exact room
    have led1 : w.params.followText "set-order" = true ∨ tb1.led = true := by
      rcases l with z | z
      · exact .inl z
      · exact .inr (l1.trans z)
    refine wpAny_bind (gw _ ?_)
    split
    · refine wpAny_bind ?_
      rw [hashByValue_scannable 8 sc]
      refine wpAny_pure (kset_tail (fun b s1 Z q => gw b q) e1 e2 e3 g1 p1 nd1 b1 ?_ ?_ ?_ fun h' sb q => ?_)
      · first | (split <;> first | exact f1 | exact SetTable.fits_plain_off f1) | exact f1
      · first | (split <;> exact r1) | exact r1
      · first | (split <;> exact led1) | exact led1
      · dsimp only
        exact wpAny_pure (hQ true h' sb q)
    · refine wpAny_bind (wpAny_pure ?_)
      simp only [↓reduceIte]
      refine kset_tail (fun b s1 Z q => gw b q) e1 e2 e3 g1 p1 nd1 b1 f1 r1 led1 fun h' sb q => ?_
      dsimp only
      exact wpAny_pure (hQ true h' sb q)
/-- s.add(k) -/
theorem kset_add {k : Key} {u : Value} {Q : Value → Shared → Prop} (hu : keyIs k u = true) (R : KSet w s.heap a ks) (room : ks.length + 1 < scanBound)
    (hQ : ∀ h', Heap.SameBut a s.heap h' → KSet w h' a (addK ks k) → Q .none { s with heap := h', toks := s.toks + 1 }) :
    wpAny (model P w) A (call (.builtin "set.add") [.ref a, u]) Q E s := by
  refine wpAny_call_entry F.slot_set_add (R.setOf (P := P)).typeIs F.entry_set_add ?_ (F.args_set_add_2 _ _)
  unfold Builtin.«set.add» Builtin.Frozenset.oneOther
  simp only [List.isEmpty_nil, bind_assoc]
  unfold Builtin.Frozenset.addrOf setAdd
  refine wpAny_bind (wpAny_pure ?_)
  try dsimp only
  refine wpAny_bind (wpAny_pure ?_)
  try dsimp only
  refine wpAny_bind (wpAny_holding (wpAny_bind ((mixKind P w).pyHash (k := k) hu ?_)))
  refine kset_hashed (s := { s with toks := s.toks + 1 }) hu R room fun b h' sb q => ?_
  show wpAny _ _ (ret Value.none) _ _ _
  exact wpAny_pure ⟨_, rfl, hQ h' sb q⟩
/-- an empty one, as it is made -/
abbrev newSetObj (w : World) : Obj := { cls := .type "set", dict := none, data := .set #[] 0 (.fresh 0 0 (!w.params.followText "set-order")) }
theorem kset_fresh (h : Heap) (w : World) : KSet w (h.push (newSetObj w)) h.objs.size [] := by
  refine ⟨_, #[], 0, _, ⟨Heap.get?_push_size _ rfl, ⟨rfl, rfl, rfl⟩, rfl⟩, ⟨fun x hx => by simp at hx, List.Perm.refl _, List.Pairwise.nil⟩, by decide, by rfl, List.Pairwise.nil, ?_⟩
  show _ ∨ (!w.params.followText "set-order") = true
  cases w.params.followText "set-order"
  · exact .inr rfl
  · exact .inl rfl
/-- what sorted() makes of a set of ints, of texts -/
theorem kset_sortedI {ns : List Int} {Q : Value → Shared → Prop} (R : KSet w s.heap a (ns.map Sum.inl)) (hh : A.handled = none)
    (hQ : ∀ s2 q (out : Array Value) (c : Nat) (ms : List Int), (∀ b o, s.heap.get? b = some o → s2.heap.get? b = some o) → s2.gens = s.gens → s2.os = s.os → s.heap.objs.size ≤ q →
      s2.heap.get? q = some (seqObj "list" out c) → IntsAre out.toList ms → ms.Pairwise (· ≤ ·) → ms.Perm ns → Q (.ref q) s2) :
    wpAny (model P w) A (call (.builtin "sorted") [.ref a]) Q E s := by
  obtain ⟨ob, es, ep, tb, ⟨e1, e2, e3⟩, ⟨g, p, nd⟩, bz, f, r, l⟩ := R
  refine Calls.call_function_entry kind_sorted plain_sorted entry_sorted (args_sorted1 _) ?_
  unfold Builtin.«sorted»
  refine wpAny_bind (m := checkCount "sorted" 1 1 _) (wpAny_pure (wpAny_bind (collect_set (A := A.in1) hh ⟨ob, e1, e2.1, e3⟩ f bz r l fun s1 vs k1 z1 g1 o1 pm => ?_)))
  have kv : (vs.map kyOf).Perm (ns.map Sum.inl) := by
    have q := pm.map kyOf
    rw [List.map_map] at q
    exact q.trans p
  have lv : vs.length ≤ sizeLine := by
    rw [pm.length_eq, List.length_map, Array.length_toList]
    exact fits_of_scanBound bz
  have hI : IntsAre vs (vs.map Builtin.Re.reRawOf) := ints_of vs fun v hv => by
    obtain ⟨x, hx, rfl⟩ := List.mem_map.mp (pm.mem_iff.mp hv)
    have m1 := kv.mem_iff.mp (List.mem_map_of_mem hv)
    obtain ⟨i, _, ei⟩ := List.mem_map.mp m1
    have q := (g x hx).1
    rw [← ei] at q
    exact Value.isInt_shape (k := i) q |>.elim fun t et => ⟨i, t, et⟩
  have pr : (vs.map Builtin.Re.reRawOf).Perm ns := by
    have inj : ∀ (xs ys : List Int), (xs.map (Sum.inl : Int → Key)).Perm (ys.map Sum.inl) → xs.Perm ys := fun xs ys q => by
      have q2 := q.map (fun k : Key => match k with | .inl i => i | .inr _ => (0 : Int))
      rw [List.map_map, List.map_map] at q2
      have e : ((fun k : Key => match k with | .inl i => i | .inr _ => (0 : Int)) ∘ Sum.inl) = (id : Int → Int) := rfl
      rwa [e, List.map_id, List.map_id] at q2
    refine inj _ _ ?_
    have e : (vs.map Builtin.Re.reRawOf).map (Sum.inl : Int → Key) = vs.map kyOf := by
      clear pm kv lv
      generalize hms : vs.map Builtin.Re.reRawOf = ms at hI
      clear hms
      induction hI with
      | nil => rfl
      | cons i t _ ih => rw [List.map_cons, List.map_cons, ih]; rfl
    rw [e]
    exact kv
  refine wpAny_bind (wpAny_newList ?_ lv)
  have hoL : (s1.heap.push (seqObj "list" vs.toArray 0)).get? s1.heap.objs.size = some (seqObj "list" vs.toArray 0) := Heap.get?_push_size _ rfl
  refine wpAny_bind (wpAny_holding (wpAny_call_entry slot_list_sort ⟨_, hoL, rfl⟩ entry_list_sort (list_sort_treeAny hoL hI lv fun out ms a1 a2 a3 => ⟨_, rfl, ?_⟩) (args_list_sort _)))
  obtain ⟨c, hc⟩ := sortedHeap_at (vs := vs) (out := out) hoL
  refine wpAny_pure ⟨_, rfl, hQ _ s1.heap.objs.size out c ms (fun b u q => ?_) g1 o1 z1 hc a1 a3 (a2.trans pr)⟩
  have q2 := k1 b u q
  have lt := Heap.lt_size q2
  show (sortedHeap (s1.heap.push (seqObj "list" vs.toArray 0)) s1.heap.objs.size vs out).get? b = some u
  rw [sortedHeap_old (Nat.ne_of_lt lt) (by rw [size_push']; exact Nat.lt_succ_of_lt lt)]
  exact Heap.get?_push_of_some _ q2
end
end Iv

/-! Iv: what the text means, as plain functions over data and a store of lists; and that the machine does just this. -/
namespace Iv
open PySem L2

inductive D where
  | non | bl (b : Bool) | int (i : Int) | str (x : Str) | tup (xs : List D) | loc (n : Nat)
  deriving Inhabited
/-- what stands at a place of the store: a list that may change, one that is only read -/
inductive OB where
  | lst (xs : List D) | frz (xs : List D) | set (xs : List D) | dic (kvs : List (D × D)) | dit (kvs : List (D × D))
/-- may it change? -/
def mutO : OB → Bool
  | .frz _ => false
  | _ => true
abbrev Sto := List OB
abbrev Sl := List (Option D)
inductive R where
  | nx (s : Sl) | brk (s : Sl) | cnt (s : Sl) | ret (d : D)
abbrev SE := Sl → Sto → Option (D × Sto)
abbrev ST := Sl → Sto → Option (Bool × Sto)
abbrev SA := Sl → Sto → Option (List D × Sto)
abbrev SS := Sl → Sto → Option (R × Sto)
abbrev LIM : Nat := 1000000
theorem lim_ok {n : Nat} (h : n ≤ LIM) : n ≤ sizeLine := Nat.le_trans h (by rw [sizeLine_eq]; decide)
theorem lim_lt {n : Nat} (h : n < LIM) : n < sizeLine := Nat.lt_of_lt_of_le h (by rw [sizeLine_eq]; decide)

def bnd {α β : Type} (x : Option (α × Sto)) (k : α → Sto → Option β) : Option β := match x with
  | some (a, st) => k a st
  | none => none
@[simp] theorem bnd_some {α β : Type} (a : α) (st : Sto) (k : α → Sto → Option β) : bnd (some (a, st)) k = k a st := rfl
@[simp] theorem bnd_none {α β : Type} (k : α → Sto → Option β) : bnd none k = none := rfl
theorem bnd_eq {α β : Type} {x : Option (α × Sto)} {k : α → Sto → Option β} {b : β} (h : bnd x k = some b) : ∃ a st, x = some (a, st) ∧ k a st = some b := by
  cases x with
  | none => cases h
  | some p => exact ⟨p.1, p.2, rfl, h⟩

def getL (st : Sto) (n : Nat) : Option (List D) := match st[n]? with
  | some (.lst xs) => some xs
  | some (.frz xs) => some xs
  | _ => none
def getM (st : Sto) (n : Nat) : Option (List D) := match st[n]? with
  | some (.lst xs) => some xs
  | _ => none

/-! ### how data stand in the machine's heap -/
def strD : D → Bool
  | .str _ => true
  | _ => false
/-- texts alone, one or more -/
def nst (ds : List D) : Bool := !ds.isEmpty && ds.all strD
/-- a tuple on which no dict hangs -/
def NoD (K : PySem.W.Frag) (H : Hp) (p : Addr) : Prop := (∃ o u, H p = some (.frz o u) ∧ o.cls = .type "tuple" ∧ o.dict = none) ∨ ∃ o, K.lookup p = some o ∧ o.cls = .type "tuple" ∧ o.dict = none
def SqN (K : PySem.W.Frag) (H : Hp) (p : Addr) (ds : List D) (vs : List V) : Prop := SqT K H p vs ∧ (nst ds = true → NoD K H p)
mutual
def Rep (K : PySem.W.Frag) (H : Hp) (μ : List Addr) : D → V → Prop
  | .non, v => v = .non
  | .bl b, v => v = .bl b
  | .int i, v => v = .int i
  | .str x, v => v = .str x
  | .loc n, v => ∃ p, v = .ref p ∧ μ[n]? = some p
  | .tup ds, v => ∃ p vs, v = .ref p ∧ SqN K H p ds vs ∧ Reps K H μ ds vs
def Reps (K : PySem.W.Frag) (H : Hp) (μ : List Addr) : List D → List V → Prop
  | [], vs => vs = []
  | d :: ds, vs => ∃ v ws, vs = v :: ws ∧ Rep K H μ d v ∧ Reps K H μ ds ws
end
def Keeps (H H' : Hp) : Prop := (∀ b xs, H b = some (.tup xs) → H' b = some (.tup xs)) ∧ (∀ b o u, H b = some (.frz o u) → H' b = some (.frz o u)) ∧ ∀ b fs, H b = some (.xd fs) → H' b = some (.xd fs)
theorem Keeps.refl (H : Hp) : Keeps H H := ⟨fun _ _ h => h, fun _ _ _ h => h, fun _ _ h => h⟩
theorem Keeps.trans {H H1 H2 : Hp} (a : Keeps H H1) (b : Keeps H1 H2) : Keeps H H2 := ⟨fun x y h => b.1 x y (a.1 x y h), fun x y z h => b.2.1 x y z (a.2.1 x y z h), fun x y h => b.2.2 x y (a.2.2 x y h)⟩
theorem Keeps.same {H H' : Hp} (e : Same H H') : Keeps H H' := ⟨fun _ _ h => e _ _ h, fun _ _ _ h => e _ _ h, fun _ _ h => e _ _ h⟩
theorem Keeps.sqT {K : PySem.W.Frag} {H H' : Hp} {p : Addr} {vs : List V} (e : Keeps H H') (h : SqT K H p vs) : SqT K H' p vs := by
  rcases h with (h | ⟨o, h⟩) | h
  · exact .inl (.inl (e.1 _ _ h))
  · exact .inl (.inr ⟨o, e.2.1 _ _ _ h⟩)
  · exact .inr h
theorem Keeps.sqN {K : PySem.W.Frag} {H H' : Hp} {p : Addr} {ds : List D} {vs : List V} (e : Keeps H H') (h : SqN K H p ds vs) : SqN K H' p ds vs := ⟨e.sqT h.1, fun z => by
  rcases h.2 z with ⟨o, u, h1, h2⟩ | h1
  · exact .inl ⟨o, u, e.2.1 _ _ _ h1, h2⟩
  · exact .inr h1⟩
def Gr (H : Hp) (μ : List Addr) (H' : Hp) (μ' : List Addr) : Prop := Keeps H H' ∧ ∃ l, μ' = μ ++ l
theorem Gr.refl (H : Hp) (μ : List Addr) : Gr H μ H μ := ⟨Keeps.refl H, [], by simp⟩
theorem Gr.trans {H H1 H2 : Hp} {μ μ1 μ2 : List Addr} (a : Gr H μ H1 μ1) (b : Gr H1 μ1 H2 μ2) : Gr H μ H2 μ2 := by
  obtain ⟨k, l, e⟩ := a
  obtain ⟨k2, l2, e2⟩ := b
  exact ⟨k.trans k2, l ++ l2, by rw [e2, e, List.append_assoc]⟩
theorem Gr.get {H H' : Hp} {μ μ' : List Addr} (g : Gr H μ H' μ') {n : Nat} {p : Addr} (h : μ[n]? = some p) : μ'[n]? = some p := by
  obtain ⟨_, l, e⟩ := g
  rw [e, List.getElem?_append_left (List.getElem?_eq_some_iff.mp h).1]
  exact h
mutual
theorem Rep.mono {K : PySem.W.Frag} {H H' : Hp} {μ μ' : List Addr} (g : Gr H μ H' μ') : ∀ (d : D) (v : V), Rep K H μ d v → Rep K H' μ' d v
  | .non, _, h => h
  | .bl _, _, h => h
  | .int _, _, h => h
  | .str _, _, h => h
  | .loc n, v, h => by
    simp only [Rep] at h ⊢
    obtain ⟨p, e, m⟩ := h
    exact ⟨p, e, g.get m⟩
  | .tup ds, v, h => by
    simp only [Rep] at h ⊢
    obtain ⟨p, vs, e, s, r⟩ := h
    exact ⟨p, vs, e, g.1.sqN s, Reps.mono g ds vs r⟩
theorem Reps.mono {K : PySem.W.Frag} {H H' : Hp} {μ μ' : List Addr} (g : Gr H μ H' μ') : ∀ (ds : List D) (vs : List V), Reps K H μ ds vs → Reps K H' μ' ds vs
  | [], _, h => h
  | d :: ds, vs, h => by
    simp only [Reps] at h ⊢
    obtain ⟨v, ws, e, r, s⟩ := h
    exact ⟨v, ws, e, Rep.mono g d v r, Reps.mono g ds ws s⟩
end
section
variable {K : PySem.W.Frag} {ww : World} {H H' : Hp} {μ μ' : List Addr}
theorem Rep.m {d : D} {v : V} (h : Rep K H μ d v) (g : Gr H μ H' μ') : Rep K H' μ' d v := Rep.mono g d v h
theorem Reps.m {d : List D} {v : List V} (h : Reps K H μ d v) (g : Gr H μ H' μ') : Reps K H' μ' d v := Reps.mono g d v h
theorem reps_nil : Reps K H μ [] [] := by simp only [Reps]
theorem reps_cons {d : D} {v : V} {ds : List D} {vs : List V} (h : Rep K H μ d v) (r : Reps K H μ ds vs) : Reps K H μ (d :: ds) (v :: vs) := by
  simp only [Reps]
  exact ⟨v, vs, rfl, h, r⟩
theorem Reps.len : ∀ {ds : List D} {vs : List V}, Reps K H μ ds vs → ds.length = vs.length
  | [], vs, h => by simp only [Reps] at h; rw [h]; rfl
  | d :: ds, vs, h => by
    simp only [Reps] at h
    obtain ⟨v, ws, rfl, _, r⟩ := h
    rw [List.length_cons, List.length_cons, Reps.len r]
theorem Reps.get : ∀ {ds : List D} {vs : List V} {i : Nat} {d : D}, Reps K H μ ds vs → ds[i]? = some d → ∃ v, vs[i]? = some v ∧ Rep K H μ d v
  | [], _, i, _, _, e => by simp at e
  | x :: ds, vs, 0, d, h, e => by
    simp only [Reps] at h
    obtain ⟨v, ws, rfl, r, _⟩ := h
    simp at e; subst e
    exact ⟨v, rfl, r⟩
  | x :: ds, vs, i + 1, d, h, e => by
    simp only [Reps] at h
    obtain ⟨v, ws, rfl, _, r⟩ := h
    obtain ⟨u, h1, h2⟩ := Reps.get r (by simpa using e)
    exact ⟨u, by simpa using h1, h2⟩
theorem Reps.get' : ∀ {ds : List D} {vs : List V} {i : Nat} {v : V}, Reps K H μ ds vs → vs[i]? = some v → ∃ d, ds[i]? = some d ∧ Rep K H μ d v := by
  intro ds vs i v h e
  have hl := h.len
  have hi := (List.getElem?_eq_some_iff.mp e).1
  have e2 : ds[i]? = some ds[i] := List.getElem?_eq_getElem (by omega)
  obtain ⟨u, h1, h2⟩ := h.get e2
  rw [e] at h1; cases h1
  exact ⟨_, e2, h2⟩
theorem Reps.app : ∀ {ds : List D} {vs : List V} {es : List D} {ws : List V}, Reps K H μ ds vs → Reps K H μ es ws → Reps K H μ (ds ++ es) (vs ++ ws)
  | [], vs, es, ws, h, r => by simp only [Reps] at h; subst h; exact r
  | x :: ds, vs, es, ws, h, r => by
    simp only [Reps] at h
    obtain ⟨v, us, rfl, r1, r2⟩ := h
    exact reps_cons r1 (Reps.app r2 r)
theorem Reps.set : ∀ {ds : List D} {vs : List V} {i : Nat} {d : D} {v : V}, Reps K H μ ds vs → Rep K H μ d v → Reps K H μ (ds.set i d) (vs.set i v)
  | [], vs, i, d, v, h, r => by simp only [Reps] at h; subst h; exact reps_nil
  | x :: ds, vs, 0, d, v, h, r => by
    simp only [Reps] at h
    obtain ⟨u, us, rfl, r1, r2⟩ := h
    exact reps_cons r r2
  | x :: ds, vs, i + 1, d, v, h, r => by
    simp only [Reps] at h
    obtain ⟨u, us, rfl, r1, r2⟩ := h
    exact reps_cons r1 (Reps.set r2 r)
theorem Reps.take : ∀ {ds : List D} {vs : List V} (n : Nat), Reps K H μ ds vs → Reps K H μ (ds.take n) (vs.take n)
  | _, _, 0, _ => reps_nil
  | [], vs, _ + 1, h => by simp only [Reps] at h; subst h; exact reps_nil
  | x :: ds, vs, n + 1, h => by
    simp only [Reps] at h
    obtain ⟨u, us, rfl, r1, r2⟩ := h
    exact reps_cons r1 (Reps.take n r2)
theorem Reps.drop : ∀ {ds : List D} {vs : List V} (n : Nat), Reps K H μ ds vs → Reps K H μ (ds.drop n) (vs.drop n)
  | _, _, 0, r => r
  | [], vs, _ + 1, h => by simp only [Reps] at h; subst h; exact reps_nil
  | x :: ds, vs, n + 1, h => by
    simp only [Reps] at h
    obtain ⟨u, us, rfl, r1, r2⟩ := h
    exact Reps.drop n r2
end
/-- a datum as a member of a set, a key of a dict -/
def keyD : D → Option Key
  | .int i => some (.inl i)
  | .str x => some (.inr x)
  | _ => none
def keysD : List D → Option (List Key)
  | [] => some []
  | d :: ds => (keyD d).bind fun k => (keysD ds).map fun ks => k :: ks
/-! a datum as a key of any depth -/
mutual
def nkD : D → Option NestedKey
  | .non => some .none
  | .bl b => some (.num (if b = true then 1 else 0))
  | .int i => some (.num i)
  | .str x => some (.text x)
  | .tup ds => (nkDs ds).map .tup
  | .loc _ => none
def nkDs : List D → Option (List NestedKey)
  | [] => some []
  | d :: ds => (nkD d).bind fun k => (nkDs ds).map fun ks => k :: ks
end
/-- a dict's entries, the keys tuples -/
def KvR (K : PySem.W.Frag) (H : Hp) (μ : List Addr) : List (D × D) → List (NestedKey × Addr × Value) → Prop
  | [], xs => xs = []
  | p :: kvs, xs => ∃ nk a u v r, xs = (nk, a, u) :: r ∧ nkD p.1 = some nk ∧ Rep K H μ p.1 (.ref a) ∧ RelV v u ∧ Rep K H μ p.2 v ∧ KvR K H μ kvs r
theorem KvR.m {K : PySem.W.Frag} {H H' : Hp} {μ μ' : List Addr} (g : Gr H μ H' μ') : ∀ {kvs : List (D × D)} {xs : List (NestedKey × Addr × Value)}, KvR K H μ kvs xs → KvR K H' μ' kvs xs
  | [], _, h => h
  | _ :: _, _, ⟨nk, a, u, v, r, e, h1, h2, h3, h4, h5⟩ => ⟨nk, a, u, v, r, e, h1, h2.m g, h3, h4.m g, KvR.m g h5⟩
def RawD (w : World) (p : Addr) (xs : List (NestedKey × Addr × Value)) : HO := .ext fun h => (p == sysModules) = false ∧ ∃ o es ep, h.get? p = some o ∧ o.ExactDict ∧ o.data = .dict es ep ∧ es.toList = xs.map fun x => (⟨NestedKey.hash w x.1, .ref x.2.1, x.2.2⟩ : DictEntry)
def KSetO (w : World) (p : Addr) (ks : List Key) : HO := .ext fun h => KSet w h p ks
def RepO (K : PySem.W.Frag) (ww : World) (H : Hp) (μ : List Addr) (p : Addr) : OB → Prop
  | .set xs => ∃ ks, keysD xs = some ks ∧ H p = some (KSetO ww p ks)
  | .dic kvs => ∃ ws : List (Key × V), H p = some (.dK ws) ∧ keysD (kvs.map Prod.fst) = some (ws.map Prod.fst) ∧ Reps K H μ (kvs.map Prod.snd) (ws.map Prod.snd)
  | .dit kvs => ∃ xs, H p = some (RawD ww p xs) ∧ (xs.map (·.1)).Nodup ∧ KvR K H μ kvs xs
  | .lst xs => ∃ vs, H p = some (.lst vs) ∧ Reps K H μ xs vs
  | .frz xs => ∃ vs, (∀ H', Keeps H H' → SqL K H' p vs) ∧ Reps K H μ xs vs
structure Gd (K : PySem.W.Frag) (ww : World) (H : Hp) (μ : List Addr) (st : Sto) : Prop where
  len : μ.length = st.length
  nd : ∀ (n m : Nat) (p : Addr) (o o2 : OB), μ[n]? = some p → μ[m]? = some p → st[n]? = some o → st[m]? = some o2 → mutO o = true → mutO o2 = true → n = m
  ob : ∀ (n : Nat) (p : Addr) (o : OB), μ[n]? = some p → st[n]? = some o → RepO K ww H μ p o
def EnvR (K : PySem.W.Frag) (H : Hp) (μ : List Addr) (σ : Sl) (τ : L2.St) : Prop := σ.length = τ.length ∧ ∀ (i : Nat) (d : D), σ[i]? = some (some d) → ∃ v, τ[i]? = some (some v) ∧ Rep K H μ d v
section
variable {K : PySem.W.Frag} {ww : World} {H H' : Hp} {μ μ' : List Addr} {st st' : Sto} {σ : Sl} {τ : L2.St}
theorem RepO.m {p : Addr} {o : OB} (h : RepO K ww H μ p o) (hm : mutO o = true → H p ≠ none → H' p = H p) (g : Gr H μ H' μ') : RepO K ww H' μ' p o := by
  cases o with
  | lst xs =>
    obtain ⟨vs, h1, h2⟩ := h
    exact ⟨vs, (hm rfl (by rw [h1]; simp)).trans h1, h2.m g⟩
  | frz xs =>
    obtain ⟨vs, h1, h2⟩ := h
    exact ⟨vs, fun H2 k => h1 H2 (g.1.trans k), h2.m g⟩
  | set xs =>
    obtain ⟨ks, h1, h2⟩ := h
    exact ⟨ks, h1, (hm rfl (by rw [h2]; simp)).trans h2⟩
  | dic kvs =>
    obtain ⟨vs, h1, h2, h3⟩ := h
    exact ⟨vs, (hm rfl (by rw [h1]; simp)).trans h1, h2, h3.m g⟩
  | dit kvs =>
    obtain ⟨xs, h1, h2, h3⟩ := h
    exact ⟨xs, (hm rfl (by rw [h1]; simp)).trans h1, h2, h3.m g⟩
/-- what may change is not a thing that is only read -/
theorem RepO.at {p : Addr} {o : OB} (h : RepO K ww H μ p o) (hm : mutO o = true) : ∃ u, H p = some u ∧ (∀ b i, u ≠ .frz b i) ∧ (∀ xs, u ≠ .tup xs) ∧ ∀ xs, u ≠ .xd xs := by
  cases o with
  | lst xs =>
    obtain ⟨vs, h1, h2⟩ := h
    exact ⟨_, h1, (fun _ _ e => nomatch e), (fun _ e => nomatch e), (fun _ e => nomatch e)⟩
  | frz xs => cases hm
  | set xs =>
    obtain ⟨ks, h1, h2⟩ := h
    exact ⟨_, h2, (fun _ _ e => nomatch e), (fun _ e => nomatch e), (fun _ e => nomatch e)⟩
  | dic kvs =>
    obtain ⟨vs, h1, h2, h3⟩ := h
    exact ⟨_, h1, (fun _ _ e => nomatch e), (fun _ e => nomatch e), (fun _ e => nomatch e)⟩
  | dit kvs =>
    obtain ⟨vs, h1, h2, h3⟩ := h
    exact ⟨_, h1, (fun _ _ e => nomatch e), (fun _ e => nomatch e), (fun _ e => nomatch e)⟩
theorem EnvR.m (e : EnvR K H μ σ τ) (g : Gr H μ H' μ') : EnvR K H' μ' σ τ := ⟨e.1, fun i d h => by
  obtain ⟨v, h1, h2⟩ := e.2 i d h
  exact ⟨v, h1, h2.m g⟩⟩
theorem EnvR.set {d : D} {v : V} (e : EnvR K H μ σ τ) (i : Nat) (r : Rep K H μ d v) : EnvR K H μ (σ.set i (some d)) (τ.set i (some v)) := by
  refine ⟨by rw [List.length_set, List.length_set]; exact e.1, fun j x h => ?_⟩
  by_cases hj : i = j
  · subst hj
    by_cases hl : i < σ.length
    · rw [List.getElem?_set_self hl] at h
      have h' := Option.some.inj (Option.some.inj h)
      subst h'
      exact ⟨v, List.getElem?_set_self (by rw [← e.1]; exact hl), r⟩
    · rw [List.getElem?_eq_none (by rw [List.length_set]; omega)] at h
      cases h
  · rw [List.getElem?_set_ne hj] at h
    obtain ⟨u, h1, h2⟩ := e.2 j x h
    exact ⟨u, by rw [List.getElem?_set_ne hj]; exact h1, h2⟩
theorem Gd.getL (g : Gd K ww H μ st) {n : Nat} {p : Addr} {xs : List D} (hp : μ[n]? = some p) (h : getL st n = some xs) : ∃ vs, SqL K H p vs ∧ Reps K H μ xs vs := by
  unfold Iv.getL at h
  cases e : st[n]? with
  | none => rw [e] at h; cases h
  | some o =>
    rw [e] at h
    have q := g.ob n p o hp e
    cases o with
    | lst ys =>
      cases h
      obtain ⟨vs, h1, h2⟩ := q
      exact ⟨vs, .inl (.inl h1), h2⟩
    | frz ys =>
      cases h
      obtain ⟨vs, h1, h2⟩ := q
      exact ⟨vs, h1 H (Keeps.refl H), h2⟩
    | set _ => cases h
    | dic _ => cases h
    | dit _ => cases h
theorem Gd.getM (g : Gd K ww H μ st) {n : Nat} {p : Addr} {xs : List D} (hp : μ[n]? = some p) (h : getM st n = some xs) : ∃ vs, H p = some (.lst vs) ∧ Reps K H μ xs vs := by
  unfold Iv.getM at h
  cases e : st[n]? with
  | none => rw [e] at h; cases h
  | some o =>
    rw [e] at h
    have q := g.ob n p o hp e
    cases o with
    | lst ys => cases h; exact q
    | _ => cases h
theorem getM_get {n : Nat} {xs : List D} (h : getM st n = some xs) : st[n]? = some (.lst xs) := by
  unfold Iv.getM at h
  cases e : st[n]? with
  | none => rw [e] at h; cases h
  | some o =>
    rw [e] at h
    cases o with
    | lst ys => cases h; rfl
    | _ => cases h
theorem Gd.lt (g : Gd K ww H μ st) {n : Nat} {p : Addr} (hp : μ[n]? = some p) : n < st.length := by
  rw [← g.len]
  exact (List.getElem?_eq_some_iff.mp hp).1
theorem Gd.adr (g : Gd K ww H μ st) {n : Nat} {o : OB} (h : st[n]? = some o) : ∃ p, μ[n]? = some p := by
  have hn := (List.getElem?_eq_some_iff.mp h).1
  exact ⟨μ[n]'(by rw [g.len]; exact hn), List.getElem?_eq_getElem _⟩
/-- the heap grows, nothing that was tracked changes -/
theorem Gd.same (g : Gd K ww H μ st) (s : Same H H') : Gd K ww H' μ st :=
  ⟨g.len, g.nd, fun n p o h1 h2 => (g.ob n p o h1 h2).m (fun _ z => by cases e : H p with | none => exact absurd e z | some u => exact s _ _ e) ⟨Keeps.same s, [], by simp⟩⟩
theorem same_upd {p : Addr} {o : HO} (h : H p = none) : Same H (upd H p o) := fun b u q => by rw [upd_ne (ne_of_none q h)]; exact q
theorem gr_tup {p : Addr} {vs : List V} (h : H p = none) : Gr H μ (upd H p (.tup vs)) μ := ⟨Keeps.same (same_upd h), [], by simp⟩
theorem gr_any {p : Addr} {o : HO} (h : H p = none) : Gr H μ (upd H p o) μ := ⟨Keeps.same (same_upd h), [], by simp⟩
theorem gr_new {p : Addr} {o : HO} (h : H p = none) : Gr H μ (upd H p o) (μ ++ [p]) := ⟨Keeps.same (same_upd h), [p], rfl⟩
/-- a new thing -/
theorem Gd.newO (g : Gd K ww H μ st) {p : Addr} {u : HO} {o : OB} (h : H p = none) (r : RepO K ww (upd H p u) (μ ++ [p]) p o) : Gd K ww (upd H p u) (μ ++ [p]) (st ++ [o]) := by
  have gr : Gr H μ (upd H p u) (μ ++ [p]) := gr_new h
  have old : ∀ (n : Nat) (q : Addr) (o2 : OB), (μ ++ [p])[n]? = some q → (st ++ [o])[n]? = some o2 → n < μ.length → μ[n]? = some q ∧ st[n]? = some o2 ∧ (mutO o2 = true → q ≠ p) := by
    intro n q o2 h1 h2 hn
    rw [List.getElem?_append_left hn] at h1
    rw [List.getElem?_append_left (by rw [← g.len]; exact hn)] at h2
    refine ⟨h1, h2, fun hm => ?_⟩
    obtain ⟨v, h3, _⟩ := (g.ob n q _ h1 h2).at hm
    exact ne_of_none h3 h
  have hlast : ∀ (n : Nat) (q : Addr), (μ ++ [p])[n]? = some q → ¬ n < μ.length → n = μ.length ∧ q = p := by
    intro n q h1 hn
    have h2 := (List.getElem?_eq_some_iff.mp h1).1
    rw [List.length_append, List.length_singleton] at h2
    have e : n = μ.length := by omega
    subst e
    rw [List.getElem?_append_right (Nat.le_refl _), Nat.sub_self] at h1
    exact ⟨rfl, (Option.some.inj h1).symm⟩
  refine ⟨by rw [List.length_append, List.length_append, g.len]; rfl, fun n m q o1 o2 h1 h2 h3 h4 m1 m2 => ?_, fun n q o1 h1 h2 => ?_⟩
  · by_cases hn : n < μ.length
    · obtain ⟨a1, a2, a3⟩ := old n q o1 h1 h3 hn
      by_cases hm : m < μ.length
      · obtain ⟨b1, b2, _⟩ := old m q o2 h2 h4 hm
        exact g.nd n m q o1 o2 a1 b1 a2 b2 m1 m2
      · exact absurd (hlast m q h2 hm).2 (a3 m1)
    · obtain ⟨rfl, rfl⟩ := hlast n q h1 hn
      by_cases hm : m < μ.length
      · exact absurd rfl ((old m q o2 h2 h4 hm).2.2 m2)
      · exact (hlast m q h2 hm).1.symm
  · by_cases hn : n < μ.length
    · rw [List.getElem?_append_left hn] at h1
      rw [List.getElem?_append_left (by rw [← g.len]; exact hn)] at h2
      refine (g.ob n q o1 h1 h2).m (fun _ z => ?_) gr
      exact upd_ne (fun e => z (by rw [e]; exact h))
    · obtain ⟨rfl, rfl⟩ := hlast n q h1 hn
      rw [g.len, List.getElem?_append_right (Nat.le_refl _), Nat.sub_self] at h2
      cases h2
      exact r
/-- a new list -/
theorem Gd.new (g : Gd K ww H μ st) {p : Addr} {xs : List D} {vs : List V} (h : H p = none) (r : Reps K H μ xs vs) : Gd K ww (upd H p (.lst vs)) (μ ++ [p]) (st ++ [.lst xs]) :=
  g.newO (o := .lst xs) (u := .lst vs) h ⟨vs, upd_same, r.m (gr_new h)⟩
/-- a list is written -/
theorem gr_over {p : Addr} {v u : HO} (h : H p = some v) (h1 : ∀ b i, v ≠ .frz b i) (h2 : ∀ xs, v ≠ .tup xs) (h3 : ∀ xs, v ≠ .xd xs) : Gr H μ (upd H p u) μ :=
  ⟨⟨fun b xs e => by rw [upd_ne (by rintro rfl; rw [h] at e; exact h2 xs (Option.some.inj e))]; exact e, fun b o i e => by rw [upd_ne (by rintro rfl; rw [h] at e; exact h1 o i (Option.some.inj e))]; exact e, fun b xs e => by rw [upd_ne (by rintro rfl; rw [h] at e; exact h3 xs (Option.some.inj e))]; exact e⟩, [], by simp⟩
theorem gr_write {p : Addr} {vs ws : List V} (h : H p = some (.lst vs)) : Gr H μ (upd H p (.lst ws)) μ := gr_over h (fun _ _ e => nomatch e) (fun _ e => nomatch e) (fun _ e => nomatch e)
/-- a thing is changed -/
theorem Gd.writeO (g : Gd K ww H μ st) {n : Nat} {p : Addr} {o o2 : OB} {u : HO} (hp : μ[n]? = some p) (hs : st[n]? = some o) (m1 : mutO o = true) (m2 : mutO o2 = true) (r : Gr H μ (upd H p u) μ → RepO K ww (upd H p u) μ p o2) : Gr H μ (upd H p u) μ ∧ Gd K ww (upd H p u) μ (st.set n o2) := by
  obtain ⟨v, hv, n1, n2, n3⟩ := (g.ob n p o hp hs).at m1
  have gr : Gr H μ (upd H p u) μ := gr_over hv n1 n2 n3
  have hn := (List.getElem?_eq_some_iff.mp hs).1
  have isl : ∀ (m : Nat) (z : OB), (st.set n o2)[m]? = some z → mutO z = true → ∃ z2, st[m]? = some z2 ∧ mutO z2 = true := by
    intro m z e em
    by_cases hm : n = m
    · subst hm; exact ⟨o, hs, m1⟩
    · rw [List.getElem?_set_ne hm] at e; exact ⟨z, e, em⟩
  refine ⟨gr, by rw [List.length_set]; exact g.len, fun a b q y z h1 h2 h3 h4 k1 k2 => ?_, fun m q z h1 h2 => ?_⟩
  · obtain ⟨y', h3, k3⟩ := isl a y h3 k1
    obtain ⟨z', h4, k4⟩ := isl b z h4 k2
    exact g.nd a b q y' z' h1 h2 h3 h4 k3 k4
  · by_cases hm : n = m
    · subst hm
      rw [List.getElem?_set_self hn] at h2
      cases h2
      rw [hp] at h1; cases h1
      exact r gr
    · rw [List.getElem?_set_ne hm] at h2
      refine (g.ob m q z h1 h2).m (fun em _ => upd_ne ?_) gr
      rintro rfl
      exact hm (g.nd n m q o z hp h1 hs h2 m1 em)
theorem Gd.write (g : Gd K ww H μ st) {n : Nat} {p : Addr} {xs ys : List D} {vs ws : List V} (hp : μ[n]? = some p) (hs : st[n]? = some (.lst xs)) (h : H p = some (.lst vs)) (r : Reps K H μ ys ws) : Gd K ww (upd H p (.lst ws)) μ (st.set n (.lst ys)) :=
  (g.writeO (o2 := .lst ys) (u := .lst ws) hp hs rfl rfl fun gr => ⟨ws, upd_same, r.m gr⟩).2
end
end Iv

namespace Iv
open PySem L2
/-! ### readings -/
def rdE (K : PySem.W.Frag) (ww : World) (f : SE) : TE := fun τ H Q => ∃ μ st σ d st', Gd K ww H μ st ∧ EnvR K H μ σ τ ∧ f σ st = some (d, st') ∧ ∀ μ' H' v, Gr H μ H' μ' → Gd K ww H' μ' st' → Rep K H' μ' d v → Q v H'
def rdT (K : PySem.W.Frag) (ww : World) (f : ST) : TT := fun τ H Q => ∃ μ st σ b st', Gd K ww H μ st ∧ EnvR K H μ σ τ ∧ f σ st = some (b, st') ∧ ∀ μ' H', Gr H μ H' μ' → Gd K ww H' μ' st' → Q b H'
def rdA (K : PySem.W.Frag) (ww : World) (f : SA) : TA := fun τ H Q => ∃ μ st σ ds st', Gd K ww H μ st ∧ EnvR K H μ σ τ ∧ f σ st = some (ds, st') ∧ ∀ μ' H' vs, Gr H μ H' μ' → Gd K ww H' μ' st' → Reps K H' μ' ds vs → Q vs H'
def Fin (K : PySem.W.Frag) (ww : World) (H : Hp) (μ : List Addr) (st' : Sto) (Dn : Ends) (r : R) : Prop :=
  ∀ μ' H', Gr H μ H' μ' → Gd K ww H' μ' st' → match r with
    | .nx σ' => ∀ τ', EnvR K H' μ' σ' τ' → Dn.nx τ' H'
    | .brk σ' => ∀ τ', EnvR K H' μ' σ' τ' → Dn.bk τ' H'
    | .cnt σ' => ∀ τ', EnvR K H' μ' σ' τ' → Dn.ct τ' H'
    | .ret d => ∀ v, Rep K H' μ' d v → Dn.rt v H'
def rdS (K : PySem.W.Frag) (ww : World) (f : SS) : TS := fun Dn τ H => ∃ μ st σ r st', Gd K ww H μ st ∧ EnvR K H μ σ τ ∧ f σ st = some (r, st') ∧ Fin K ww H μ st' Dn r
theorem Fin.m {K : PySem.W.Frag} {ww : World} {H H' : Hp} {μ μ' : List Addr} {st' : Sto} {Dn : Ends} {r : R} (h : Fin K ww H μ st' Dn r) (g : Gr H μ H' μ') : Fin K ww H' μ' st' Dn r := fun μ2 H2 g2 gd => h μ2 H2 (g.trans g2) gd

/-! ### weakening -/
theorem _root_.L2.PE.weak {X : Cx} {e : Expr} {t u : TE} (h : PE X e t) (w : ∀ τ H Q, u τ H Q → t τ H Q) : PE X e u := ⟨fun pins s σ H Q I q => h.run pins s σ H Q I (w σ H Q q)⟩
theorem _root_.L2.PT.weak {X : Cx} {e : Expr} {t u : TT} (h : PT X e t) (w : ∀ τ H Q, u τ H Q → t τ H Q) : PT X e u := ⟨fun pins s σ H Q I q => h.run pins s σ H Q I (w σ H Q q)⟩
theorem _root_.L2.PW.weak {X : Cx} {e : Expr} {t u : TT} (h : PW X e t) (w : ∀ τ H Q, u τ H Q → t τ H Q) : PW X e u := ⟨fun wh pins s σ H Q I q => h.run wh pins s σ H Q I (w σ H Q q)⟩
theorem _root_.L2.PA.weak {X : Cx} {e : List Expr} {t u : TA} (h : PA X e t) (w : ∀ τ H Q, u τ H Q → t τ H Q) : PA X e u := ⟨fun p pins s σ H Q I q => h.run p pins s σ H Q I (w σ H Q q)⟩
theorem _root_.L2.PS.weak {X : Cx} {e : Stmt} {t u : TS} (h : PS X e t) (w : ∀ Dn τ H, u Dn τ H → t Dn τ H) : PS X e u := ⟨fun pins s σ H Dn I q => h.run pins s σ H Dn I (w Dn σ H q)⟩
theorem _root_.L2.PSs.weak {X : Cx} {e : List Stmt} {t u : TS} (h : PSs X e t) (w : ∀ Dn τ H, u Dn τ H → t Dn τ H) : PSs X e u := ⟨fun pins s σ H Dn I q => h.run pins s σ H Dn I (w Dn σ H q)⟩
theorem _root_.L2.PTs.weak {X : Cx} {e : List Expr} {t u : TT} (h : PTs X e t) (w : ∀ τ H Q, u τ H Q → t τ H Q) : PTs X e u := ⟨fun pins s σ H Q I q => h.run pins s σ H Q I (w σ H Q q)⟩

section
variable {X : Cx} {K : PySem.W.Frag} {ww : World}
/-! ### names, constants -/
def varF (i : Nat) : SE := fun σ st => match σ[i]? with
  | some (some d) => some (d, st)
  | _ => none
def cstF (d : D) : SE := fun _ st => some (d, st)
theorem se_var {i : Nat} {e : Expr} (h : PE X e (tVar i)) : PE X e (rdE K ww (varF i)) := h.weak fun τ H Q ⟨μ, st, σ, d, st', g, er, hv, k⟩ => by
  unfold varF at hv
  split at hv
  · rename_i d' e'
    cases hv
    obtain ⟨v, h1, h2⟩ := er.2 i _ e'
    exact ⟨v, h1, k μ H v (Gr.refl H μ) g h2⟩
  · cases hv
/-- a constant of the text: whatever stands in the heap it is d -/
theorem se_cst {d : D} {e : Expr} {v : V} (h : PE X e (tC v)) (r : ∀ H μ, Rep K H μ d v) : PE X e (rdE K ww (cstF d)) := h.weak fun τ H Q ⟨μ, st, σ, d', st', g, er, hv, k⟩ => by
  cases hv
  exact k μ H v (Gr.refl H μ) g (r H μ)
theorem se_int {i : Int} {j pos} : PE X (.Constant (.int i) j pos) (rdE K ww (cstF (.int i))) := se_cst pe_int fun _ _ => by simp only [Rep]
theorem se_bl {i : Bool} {j pos} : PE X (.Constant (.bool i) j pos) (rdE K ww (cstF (.bl i))) := se_cst pe_bl fun _ _ => by simp only [Rep]
theorem se_non {j pos} : PE X (.Constant .none j pos) (rdE K ww (cstF .non)) := se_cst pe_non fun _ _ => by simp only [Rep]
theorem se_str {x j pos} : PE X (.Constant (.str x) j pos) (rdE K ww (cstF (.str x))) := se_cst pe_str fun _ _ => by simp only [Rep]

/-! ### two-place operations by values -/
abbrev Op2 := D → D → Sto → Option (D × Sto)
abbrev Op1 := D → Sto → Option (D × Sto)
abbrev OpN := List D → Sto → Option (D × Sto)
def binF (o : Op2) (f g : SE) : SE := fun σ st => bnd (f σ st) fun x st1 => bnd (g σ st1) fun y st2 => o x y st2
def unF (o : Op1) (f : SE) : SE := fun σ st => bnd (f σ st) fun x st1 => o x st1
def Ok2 (K : PySem.W.Frag) (ww : World) (r : R2) (o : Op2) : Prop := ∀ H μ st x y vx vy d st' (Q : VK), Gd K ww H μ st → Rep K H μ x vx → Rep K H μ y vy → o x y st = some (d, st') →
  (∀ μ' H' v, Gr H μ H' μ' → Gd K ww H' μ' st' → Rep K H' μ' d v → Q v H') → r vx vy H Q
def Ok1 (K : PySem.W.Frag) (ww : World) (r : V → Hp → VK → Prop) (o : Op1) : Prop := ∀ H μ st x vx d st' (Q : VK), Gd K ww H μ st → Rep K H μ x vx → o x st = some (d, st') →
  (∀ μ' H' v, Gr H μ H' μ' → Gd K ww H' μ' st' → Rep K H' μ' d v → Q v H') → r vx H Q
def OkN (K : PySem.W.Frag) (ww : World) (r : List V → Hp → VK → Prop) (o : OpN) : Prop := ∀ H μ st xs vs d st' (Q : VK), Gd K ww H μ st → Reps K H μ xs vs → o xs st = some (d, st') →
  (∀ μ' H' v, Gr H μ H' μ' → Gd K ww H' μ' st' → Rep K H' μ' d v → Q v H') → r vs H Q
theorem rd_op {r : R2} {o : Op2} {f g : SE} (h : Ok2 K ww r o) : ∀ τ H Q, rdE K ww (binF o f g) τ H Q → tOp r (rdE K ww f) (rdE K ww g) τ H Q := fun τ H Q ⟨μ, st, σ, d, st', gd, er, hv, k⟩ => by
  obtain ⟨x, s1, h1, hv⟩ := bnd_eq hv
  obtain ⟨y, s2, h2, hv⟩ := bnd_eq hv
  refine ⟨μ, st, σ, x, s1, gd, er, h1, fun μ1 H1 vx g1 d1 r1 => ?_⟩
  refine ⟨μ1, s1, σ, y, s2, d1, er.m g1, h2, fun μ2 H2 vy g2 d2 r2 => ?_⟩
  exact h H2 μ2 s2 x y vx vy d st' Q d2 (r1.m g2) r2 hv fun μ3 H3 v g3 d3 r3 => k μ3 H3 v ((g1.trans g2).trans g3) d3 r3
theorem se_bin {op : Operator} {r : R2} {o : Op2} {a b : Expr} {f g : SE} {pos : Pos} (ho : OpR X (binaryOp op) r) (h : Ok2 K ww r o) (ha : PE X a (rdE K ww f)) (hb : PE X b (rdE K ww g)) : PE X (.BinOp a op b pos) (rdE K ww (binF o f g)) := (pe_op ho ha hb).weak (rd_op h)
theorem se_cmp {op : CmpOp} {r : R2} {o : Op2} {a b : Expr} {f g : SE} {pos : Pos} (ho : OpR X (compareOp op) r) (h : Ok2 K ww r o) (ha : PE X a (rdE K ww f)) (hb : PE X b (rdE K ww g)) (hm : behindInMarks op b = false) : PE X (.Compare a [op] [b] pos) (rdE K ww (binF o f g)) := (pe_cmpR ho ha hb hm).weak (rd_op h)
theorem se_ix {r : R2} {o : Op2} {a b : Expr} {f g : SE} {pos : Pos} (ho : IxR X r) (h : Ok2 K ww r o) (ha : PE X a (rdE K ww f)) (hb : PE X b (rdE K ww g)) (hs : PlainIx b) : PE X (.Subscript a b pos) (rdE K ww (binF o f g)) := (pe_ix ho ha hb hs).weak (rd_op h)
theorem se_un {op : UnaryOp} {r : V → Hp → VK → Prop} {o : Op1} {a : Expr} {f : SE} {pos : Pos} (ho : UnR X (unaryOp op) r) (h : Ok1 K ww r o) (ha : PE X a (rdE K ww f)) : PE X (.UnaryOp op a pos) (rdE K ww (unF o f)) := (pe_un ho ha).weak fun τ H Q ⟨μ, st, σ, d, st', gd, er, hv, k⟩ => by
  obtain ⟨x, s1, h1, hv⟩ := bnd_eq hv
  refine ⟨μ, st, σ, x, s1, gd, er, h1, fun μ1 H1 vx g1 d1 r1 => ?_⟩
  exact h H1 μ1 s1 x vx d st' Q d1 r1 hv fun μ3 H3 v g3 d3 r3 => k μ3 H3 v (g1.trans g3) d3 r3

/-! ### arguments -/
def nilF : SA := fun _ st => some ([], st)
def consF (f : SE) (g : SA) : SA := fun σ st => bnd (f σ st) fun x st1 => bnd (g σ st1) fun xs st2 => some (x :: xs, st2)
theorem sa_nil : PA X [] (rdA K ww nilF) := pa_nil.weak fun τ H Q ⟨μ, st, σ, d, st', gd, er, hv, k⟩ => by
  cases hv
  exact k μ H [] (Gr.refl H μ) gd reps_nil
theorem sa_cons {e : Expr} {es : List Expr} {f : SE} {g : SA} (ha : PE X e (rdE K ww f)) (hr : PA X es (rdA K ww g)) (hs : starEach (e :: es) X.env = (false, eval e X.env) :: starEach es X.env := by rfl) : PA X (e :: es) (rdA K ww (consF f g)) := (pa_cons ha hr hs).weak fun τ H Q ⟨μ, st, σ, d, st', gd, er, hv, k⟩ => by
  obtain ⟨x, s1, h1, hv⟩ := bnd_eq hv
  obtain ⟨xs, s2, h2, hv⟩ := bnd_eq hv
  cases hv
  refine ⟨μ, st, σ, x, s1, gd, er, h1, fun μ1 H1 vx g1 d1 r1 => ?_⟩
  refine ⟨μ1, s1, σ, xs, _, d1, er.m g1, h2, fun μ2 H2 vs g2 d2 r2 => ?_⟩
  exact k μ2 H2 _ (g1.trans g2) d2 (reps_cons (r1.m g2) r2)
def appF (o : OpN) (f : SA) : SE := fun σ st => bnd (f σ st) fun xs st1 => o xs st1
def mapp (o : Op2) (f : SE) (g : SE) : SE := binF o f g
theorem rd_app {r : List V → Hp → VK → Prop} {o : OpN} {f : SA} (h : OkN K ww r o) : ∀ τ H Q, rdE K ww (appF o f) τ H Q → tCB r (rdA K ww f) τ H Q := fun τ H Q ⟨μ, st, σ, d, st', gd, er, hv, k⟩ => by
  obtain ⟨x, s1, h1, hv⟩ := bnd_eq hv
  refine ⟨μ, st, σ, x, s1, gd, er, h1, fun μ1 H1 vx g1 d1 r1 => ?_⟩
  exact h H1 μ1 s1 x vx d st' Q d1 r1 hv fun μ3 H3 v g3 d3 r3 => k μ3 H3 v (g1.trans g3) d3 r3
theorem se_callB {x : Str} {p pos : Pos} {e : Expr} {es : List Expr} {id : String} {r : List V → Hp → VK → Prop} {o : OpN} {f : SA} (hc : CallR X (.builtin id) r) (h : OkN K ww r o) (hg : Gl X x) (hm : X.mg x = none) (hv : bootBuiltins x = some (.builtin id)) (ha : PA X (e :: es) (rdA K ww f)) (hn : x ≠ "__name__" := by decide) (hdb : (x == ("__debug__" : Str)) = false := by decide)
    (he : starEach (e :: es) X.env = (false, eval e X.env) :: starEach es X.env := by rfl) (hpl : (backTo pos (starEach es X.env)).any (·.1) = false := by rfl) :
    PE X (.Call (.Name x p) (e :: es) [] pos) (rdE K ww (appF o f)) := (pe_callB hc hg hm hv ha hn hdb he hpl).weak (rd_app h)
theorem se_callTy {x : Str} {p pos : Pos} {e : Expr} {es : List Expr} {T : String} {r : List V → Hp → VK → Prop} {o : OpN} {f : SA} (hc : CallR X (.type T) r) (h : OkN K ww r o) (hg : Gl X x) (hm : X.mg x = none) (hv : bootBuiltins x = some (.type T)) (ha : PA X (e :: es) (rdA K ww f)) (hn : x ≠ "__name__" := by decide) (hdb : (x == ("__debug__" : Str)) = false := by decide)
    (he : starEach (e :: es) X.env = (false, eval e X.env) :: starEach es X.env := by rfl) (hpl : (backTo pos (starEach es X.env)).any (·.1) = false := by rfl) :
    PE X (.Call (.Name x p) (e :: es) [] pos) (rdE K ww (appF o f)) := (pe_callTy hc hg hm hv ha hn hdb he hpl).weak (rd_app h)
/-- a method of a built-in type -/
abbrev OpM := D → List D → Sto → Option (D × Sto)
def OkM (K : PySem.W.Frag) (ww : World) (r : V → List V → Hp → VK → Prop) (o : OpM) : Prop := ∀ H μ st x xs vx vs d st' (Q : VK), Gd K ww H μ st → Rep K H μ x vx → Reps K H μ xs vs → o x xs st = some (d, st') →
  (∀ μ' H' v, Gr H μ H' μ' → Gd K ww H' μ' st' → Rep K H' μ' d v → Q v H') → r vx vs H Q
def isTy (T : String) (d : D) (st : Sto) : Bool := match T, d with
  | "list", .loc n => (getL st n).isSome
  | "str", .str _ => true
  | _, _ => false
def bmF (T : String) (o : OpM) (f : SE) (g : SA) : SE := fun σ st => bnd (f σ st) fun x st1 => if isTy T x st1 = true then bnd (g σ st1) fun xs st2 => o x xs st2 else none
def bm0F (T : String) (o : OpM) (f : SE) : SE := fun σ st => bnd (f σ st) fun x st1 => if isTy T x st1 = true then o x [] st1 else none

/-! ### tuples, lists -/
def tupF (f : SA) : SE := fun σ st => bnd (f σ st) fun xs st1 => if xs.length ≤ LIM then some (.tup xs, st1) else none
def lstF (f : SA) : SE := fun σ st => bnd (f σ st) fun xs st1 => if xs.length ≤ LIM then some (.loc st1.length, st1 ++ [.lst xs]) else none
theorem rep_tup {H : Hp} {μ : List Addr} {p : Addr} {ds : List D} {vs : List V} (h : SqT K H p vs) (nd : nst ds = true → NoD K H p) (r : Reps K H μ ds vs) : Rep K H μ (.tup ds) (.ref p) := by
  simp only [Rep]
  exact ⟨p, vs, rfl, ⟨h, nd⟩, r⟩
theorem rep_loc {H : Hp} {μ : List Addr} {p : Addr} {n : Nat} (h : μ[n]? = some p) : Rep K H μ (.loc n) (.ref p) := by
  simp only [Rep]
  exact ⟨p, rfl, h⟩
theorem new_tup {H : Hp} {μ : List Addr} {st : Sto} {ds : List D} {vs : List V} {Q : VK} (gd : Gd K ww H μ st) (r : Reps K H μ ds vs) (k : ∀ μ' H' v, Gr H μ H' μ' → Gd K ww H' μ' st → Rep K H' μ' (.tup ds) v → Q v H') :
    ∀ (p : Addr) (o : Obj), H p = none → o.cls = .type "tuple" → o.dict = none → Q (.ref p) (upd H p (.frz o (.tup vs))) := fun p o hp hc hd => by
  have g : Gr H μ (upd H p (.frz o (.tup vs))) μ := gr_any hp
  exact k μ _ _ g (gd.same (same_upd hp)) (rep_tup (.inl (.inr ⟨o, upd_same⟩)) (fun _ => .inl ⟨o, _, upd_same, hc, hd⟩) (r.m g))
/-- one that is not of texts alone -/
theorem new_tupP {H : Hp} {μ : List Addr} {st : Sto} {ds : List D} {vs : List V} {Q : VK} (gd : Gd K ww H μ st) (hn : nst ds = false) (r : Reps K H μ ds vs) (k : ∀ μ' H' v, Gr H μ H' μ' → Gd K ww H' μ' st → Rep K H' μ' (.tup ds) v → Q v H') :
    ∀ p, H p = none → Q (.ref p) (upd H p (.tup vs)) := fun p hp => by
  have g : Gr H μ (upd H p (.tup vs)) μ := gr_tup hp
  exact k μ _ _ g (gd.same (same_upd hp)) (rep_tup (.inl (.inl upd_same)) (fun z => by rw [hn] at z; cases z) (r.m g))
/-- a tuple display, the object told -/
def tTupN (t : TA) : TE := fun τ H Q => t τ H fun xs H1 => xs.length ≤ sizeLine ∧ ∀ (p : Addr) (o : Obj), H1 p = none → o.cls = .type "tuple" → o.dict = none → Q (.ref p) (upd H1 p (.frz o (.tup xs)))
theorem pe_tupN {es : List Expr} {x1} {pos : Pos} {t : TA} (h : PA X es t) : PE X (.Tuple es x1 pos) (tTupN t) :=
  ⟨fun pins s σ H Q I hq => wpAny_Tuple_spliced (thn (h.run pos pins s σ H _ I hq) fun us s1 ⟨xs, H1, I1, r, z, q⟩ => ⟨by rw [← r.length]; exact z,
    .ref s1.heap.objs.size, upd H1 s1.heap.objs.size (.frz _ (.tup xs)), I1.laid (t' := s1.toks) (fun b u e => Heap.get?_push_of_some _ e) (Nat.le_refl _) ⟨Heap.get?_push_size _ rfl, z, us, r, ⟨_, Heap.get?_push_size _ rfl, rfl, _, rfl⟩⟩, rfl, q _ _ (I1.hok.fresh (Nat.le_refl _)) rfl rfl⟩)⟩
theorem new_lst {H : Hp} {μ : List Addr} {st : Sto} {ds : List D} {vs : List V} {Q : VK} (gd : Gd K ww H μ st) (r : Reps K H μ ds vs) (k : ∀ μ' H' v, Gr H μ H' μ' → Gd K ww H' μ' (st ++ [.lst ds]) → Rep K H' μ' (.loc st.length) v → Q v H') :
    ∀ p, H p = none → Q (.ref p) (upd H p (.lst vs)) := fun p hp => by
  have g : Gr H μ (upd H p (.lst vs)) (μ ++ [p]) := gr_new hp
  refine k _ _ _ g (gd.new hp r) (rep_loc ?_)
  rw [← gd.len, List.getElem?_append_right (Nat.le_refl _), Nat.sub_self]
  rfl
theorem se_tup {es : List Expr} {x1} {pos : Pos} {f : SA} (h : PA X es (rdA K ww f)) : PE X (.Tuple es x1 pos) (rdE K ww (tupF f)) := (pe_tupN h).weak fun τ H Q ⟨μ, st, σ, d, st', gd, er, hv, k⟩ => by
  obtain ⟨x, s1, h1, hv⟩ := bnd_eq hv
  split at hv
  · rename_i hl
    cases hv
    refine ⟨μ, st, σ, x, _, gd, er, h1, fun μ1 H1 vs g1 d1 r1 => ⟨lim_ok (by rw [← r1.len]; exact hl), ?_⟩⟩
    exact new_tup d1 r1 fun μ3 H3 v g3 d3 r3 => k μ3 H3 v (g1.trans g3) d3 r3
  · cases hv
theorem se_lst {es : List Expr} {pos : Pos} {f : SA} (h : PA X es (rdA K ww f)) : PE X (.List es pos) (rdE K ww (lstF f)) := (pe_lst h).weak fun τ H Q ⟨μ, st, σ, d, st', gd, er, hv, k⟩ => by
  obtain ⟨x, s1, h1, hv⟩ := bnd_eq hv
  split at hv
  · rename_i hl
    cases hv
    refine ⟨μ, st, σ, x, _, gd, er, h1, fun μ1 H1 vs g1 d1 r1 => ⟨lim_ok (by rw [← r1.len]; exact hl), ?_⟩⟩
    exact new_lst d1 r1 fun μ3 H3 v g3 d3 r3 => k μ3 H3 v (g1.trans g3) d3 r3
  · cases hv

/-! ### truth, tests -/
def truth (d : D) (st : Sto) : Option Bool := match d with
  | .non => some false
  | .bl b => some b
  | .int i => some (i != 0)
  | .str x => if x.length ≤ LIM then some ((x.length : Int) != 0) else none
  | .tup xs => some (!xs.isEmpty)
  | .loc n => (getL st n).map fun xs => !xs.isEmpty
theorem empty_of {H : Hp} {μ : List Addr} : ∀ {ds : List D} {vs : List V}, Reps K H μ ds vs → (!ds.isEmpty) = !vs.isEmpty
  | [], vs, h => by simp only [Reps] at h; rw [h]; rfl
  | d :: ds, vs, h => by simp only [Reps] at h; obtain ⟨v, ws, rfl, _, _⟩ := h; rfl
theorem tru_of {H : Hp} {μ : List Addr} {st : Sto} {d : D} {v : V} {b : Bool} (g : Gd K ww H μ st) (r : Rep K H μ d v) (h : truth d st = some b) : TruV K v H b := by
  cases d with
  | non => simp only [Rep] at r; subst r; exact (Option.some.inj h).symm
  | bl c => simp only [Rep] at r; subst r; exact (Option.some.inj h).symm
  | int i => simp only [Rep] at r; subst r; exact (Option.some.inj h).symm
  | str x =>
    simp only [Rep] at r; subst r
    unfold truth at h
    simp only at h
    split at h
    · rename_i hl
      exact ⟨lim_ok hl, (Option.some.inj h).symm⟩
    · cases h
  | tup xs =>
    simp only [Rep] at r
    obtain ⟨p, vs, rfl, ⟨s, _⟩, rs⟩ := r
    exact .inr (.inl ⟨vs, s, by rw [← empty_of rs]; exact (Option.some.inj h).symm⟩)
  | loc n =>
    simp only [Rep] at r
    obtain ⟨p, rfl, hp⟩ := r
    unfold truth at h
    simp only at h
    cases e : getL st n with
    | none => rw [e] at h; cases h
    | some xs =>
      rw [e] at h
      obtain ⟨vs, s, rs⟩ := g.getL hp e
      exact .inl ⟨vs, s, by rw [← empty_of rs]; exact (Option.some.inj h).symm⟩
def truF (f : SE) : ST := fun σ st => bnd (f σ st) fun x st1 => (truth x st1).map fun b => (b, st1)
def cmpT (o : Op2) (f g : SE) : ST := truF (binF o f g)
theorem rd_tru {f : SE} {τ : L2.St} {H : Hp} {Q : Bool → Hp → Prop} (h : rdT K ww (truF f) τ H Q) : rdE K ww f τ H fun x H' => ∃ k, TruV K x H' k ∧ Q k H' := by
  obtain ⟨μ, st, σ, b, st', gd, er, hv, k⟩ := h
  obtain ⟨x, s1, h1, hv⟩ := bnd_eq hv
  cases e : truth x s1 with
  | none => rw [e] at hv; cases hv
  | some c =>
    rw [e] at hv
    cases hv
    exact ⟨μ, st, σ, x, _, gd, er, h1, fun μ1 H1 v g1 d1 r1 => ⟨b, tru_of d1 r1 e, k μ1 H1 g1 d1⟩⟩
theorem st_tru {a : Expr} {f : SE} (ha : PE X a (rdE X.K X.w f)) (he : ∀ whole, isTrue a X.env whole = (do let v ← whole; standAt a.pos; holding [v] (truthy v)) := by intro _; rfl) : PT X a (rdT X.K X.w (truF f)) :=
  (pt_truth ha he).weak fun τ H Q h => rd_tru h
/-- a comparison as a test -/
theorem st_cmp {op : CmpOp} {r : R2} {o : Op2} {a b : Expr} {f g : SE} {pos : Pos} (ho : OpR X (compareOp op) r) (h : Ok2 K ww r o) (hb' : ∀ x y st d st', o x y st = some (d, st') → ∃ b, d = .bl b) (ha : PE X a (rdE K ww f)) (hb : PE X b (rdE K ww g)) (hm : behindInMarks op b = false) : PT X (.Compare a [op] [b] pos) (rdT K ww (cmpT o f g)) :=
  (pt_cmpR ho ha hb hm).weak fun τ H Q ⟨μ, st, σ, b, st', gd, er, hv, k⟩ => by
    obtain ⟨x, s1, h1, hv⟩ := bnd_eq hv
    cases e : truth x s1 with
    | none => rw [e] at hv; cases hv
    | some c =>
      rw [e] at hv
      cases hv
      refine rd_op h τ H _ ⟨μ, st, σ, x, _, gd, er, h1, fun μ1 H1 v g1 d1 r1 => ?_⟩
      unfold binF at h1
      obtain ⟨_, _, _, h1⟩ := bnd_eq h1
      obtain ⟨_, _, _, h1⟩ := bnd_eq h1
      obtain ⟨c, rfl⟩ := hb' _ _ _ _ _ h1
      simp only [Rep] at r1
      cases e
      exact ⟨_, r1, k μ1 H1 g1 d1⟩
def andT (f g : ST) : ST := fun σ st => bnd (f σ st) fun b st1 => if b = true then g σ st1 else some (false, st1)
def orT (f g : ST) : ST := fun σ st => bnd (f σ st) fun b st1 => if b = true then some (true, st1) else g σ st1
def notT (f : ST) : ST := fun σ st => bnd (f σ st) fun b st1 => some (!b, st1)
theorem rd_andT {f g : ST} : ∀ τ H Q, rdT K ww (andT f g) τ H Q → tAnd (rdT K ww f) (rdT K ww g) τ H Q := fun τ H Q ⟨μ, st, σ, b, st', gd, er, hv, k⟩ => by
  obtain ⟨c, s1, h1, hv⟩ := bnd_eq hv
  refine ⟨μ, st, σ, c, s1, gd, er, h1, fun μ1 H1 g1 d1 => ?_⟩
  cases c with
  | true => exact ⟨μ1, s1, σ, b, st', d1, er.m g1, hv, fun μ2 H2 g2 d2 => k μ2 H2 (g1.trans g2) d2⟩
  | false =>
    cases hv
    exact k μ1 H1 g1 d1
theorem rd_orT {f g : ST} : ∀ τ H Q, rdT K ww (orT f g) τ H Q → tOr (rdT K ww f) (rdT K ww g) τ H Q := fun τ H Q ⟨μ, st, σ, b, st', gd, er, hv, k⟩ => by
  obtain ⟨c, s1, h1, hv⟩ := bnd_eq hv
  refine ⟨μ, st, σ, c, s1, gd, er, h1, fun μ1 H1 g1 d1 => ?_⟩
  cases c with
  | false => exact ⟨μ1, s1, σ, b, st', d1, er.m g1, hv, fun μ2 H2 g2 d2 => k μ2 H2 (g1.trans g2) d2⟩
  | true =>
    cases hv
    exact k μ1 H1 g1 d1
section
variable {a b : Expr} {rest : List Expr} {f g : ST} {pos : Pos}
theorem sw_and1 (ha : PT X a (rdT K ww f)) : PW X (.BoolOp .And [a] pos) (rdT K ww f) := pw_and1 ha
theorem sw_or1 (ha : PT X a (rdT K ww f)) : PW X (.BoolOp .Or [a] pos) (rdT K ww f) := pw_or1 ha
theorem sw_and (ha : PT X a (rdT K ww f)) (hb : PW X (.BoolOp .And (b :: rest) pos) (rdT K ww g)) : PW X (.BoolOp .And (a :: b :: rest) pos) (rdT K ww (andT f g)) := (pw_and ha hb).weak rd_andT
theorem sw_or (ha : PT X a (rdT K ww f)) (hb : PW X (.BoolOp .Or (b :: rest) pos) (rdT K ww g)) : PW X (.BoolOp .Or (a :: b :: rest) pos) (rdT K ww (orT f g)) := (pw_or ha hb).weak rd_orT
theorem st_not (ha : PT X a (rdT K ww f)) : PT X (.UnaryOp .Not a pos) (rdT K ww (notT f)) := (pt_not ha).weak fun τ H Q ⟨μ, st, σ, b, st', gd, er, hv, k⟩ => by
  obtain ⟨c, s1, h1, hv⟩ := bnd_eq hv
  cases hv
  exact ⟨μ, st, σ, c, _, gd, er, h1, fun μ1 H1 g1 d1 => k μ1 H1 g1 d1⟩
end
/-! and, or, not as values -/
def andF (f g : SE) : SE := fun σ st => bnd (f σ st) fun x st1 => (truth x st1).bind fun b => if b = true then g σ st1 else some (x, st1)
def orF (f g : SE) : SE := fun σ st => bnd (f σ st) fun x st1 => (truth x st1).bind fun b => if b = true then some (x, st1) else g σ st1
def notF (f : SE) : SE := fun σ st => bnd (f σ st) fun x st1 => (truth x st1).map fun b => (.bl (!b), st1)
def ifF (c : ST) (f g : SE) : SE := fun σ st => bnd (c σ st) fun b st1 => if b = true then f σ st1 else g σ st1
section
variable {a b c : Expr} {rest : List Expr} {f g : SE} {t : ST} {pos : Pos}
theorem se_one {op} (ha : PE X a (rdE K ww f)) : PE X (.BoolOp op [a] pos) (rdE K ww f) := pe_one ha
theorem se_and (ha : PE X a (rdE X.K X.w f)) (hb : PE X (.BoolOp .And (b :: rest) pos) (rdE X.K X.w g)) : PE X (.BoolOp .And (a :: b :: rest) pos) (rdE X.K X.w (andF f g)) := (pe_andT ha hb).weak fun τ H Q ⟨μ, st, σ, d, st', gd, er, hv, k⟩ => by
  obtain ⟨x, s1, h1, hv⟩ := bnd_eq hv
  cases e : truth x s1 with
  | none => rw [e] at hv; cases hv
  | some y =>
    rw [e] at hv
    refine ⟨μ, st, σ, x, s1, gd, er, h1, fun μ1 H1 v g1 d1 r1 => ⟨y, tru_of d1 r1 e, ?_⟩⟩
    cases y with
    | true => exact ⟨μ1, s1, σ, d, st', d1, er.m g1, hv, fun μ2 H2 v2 g2 d2 r2 => k μ2 H2 v2 (g1.trans g2) d2 r2⟩
    | false =>
      cases hv
      exact k μ1 H1 v g1 d1 r1
theorem se_or (ha : PE X a (rdE X.K X.w f)) (hb : PE X (.BoolOp .Or (b :: rest) pos) (rdE X.K X.w g)) : PE X (.BoolOp .Or (a :: b :: rest) pos) (rdE X.K X.w (orF f g)) := (pe_orT ha hb).weak fun τ H Q ⟨μ, st, σ, d, st', gd, er, hv, k⟩ => by
  obtain ⟨x, s1, h1, hv⟩ := bnd_eq hv
  cases e : truth x s1 with
  | none => rw [e] at hv; cases hv
  | some y =>
    rw [e] at hv
    refine ⟨μ, st, σ, x, s1, gd, er, h1, fun μ1 H1 v g1 d1 r1 => ⟨y, tru_of d1 r1 e, ?_⟩⟩
    cases y with
    | false => exact ⟨μ1, s1, σ, d, st', d1, er.m g1, hv, fun μ2 H2 v2 g2 d2 r2 => k μ2 H2 v2 (g1.trans g2) d2 r2⟩
    | true =>
      cases hv
      exact k μ1 H1 v g1 d1 r1
theorem se_not (ha : PE X a (rdE X.K X.w f)) : PE X (.UnaryOp .Not a pos) (rdE X.K X.w (notF f)) := (pe_notT ha).weak fun τ H Q ⟨μ, st, σ, d, st', gd, er, hv, k⟩ => by
  obtain ⟨x, s1, h1, hv⟩ := bnd_eq hv
  cases e : truth x s1 with
  | none => rw [e] at hv; cases hv
  | some y =>
    rw [e] at hv
    cases hv
    refine ⟨μ, st, σ, x, _, gd, er, h1, fun μ1 H1 v g1 d1 r1 => ⟨y, tru_of d1 r1 e, k μ1 H1 _ g1 d1 (by simp only [Rep])⟩⟩
theorem se_if (hc : PT X c (rdT K ww t)) (ha : PE X a (rdE K ww f)) (hb : PE X b (rdE K ww g)) : PE X (.IfExp c a b pos) (rdE K ww (ifF t f g)) := (pe_ifExp hc ha hb).weak fun τ H Q ⟨μ, st, σ, d, st', gd, er, hv, k⟩ => by
  obtain ⟨y, s1, h1, hv⟩ := bnd_eq hv
  refine ⟨μ, st, σ, y, s1, gd, er, h1, fun μ1 H1 g1 d1 => ?_⟩
  cases y with
  | true => exact ⟨μ1, s1, σ, d, st', d1, er.m g1, hv, fun μ2 H2 v2 g2 d2 r2 => k μ2 H2 v2 (g1.trans g2) d2 r2⟩
  | false => exact ⟨μ1, s1, σ, d, st', d1, er.m g1, hv, fun μ2 H2 v2 g2 d2 r2 => k μ2 H2 v2 (g1.trans g2) d2 r2⟩
end
end
end Iv

namespace Iv
open PySem L2
section
variable {X : Cx} {K : PySem.W.Frag} {ww : World}
/-! ### methods of built-in types -/
theorem ty_of {H : Hp} {μ : List Addr} {st : Sto} {T : String} {d : D} {v : V} (gd : Gd K ww H μ st) (r : Rep K H μ d v) (h : isTy T d st = true) : tyV K T v H := by
  unfold isTy at h
  split at h
  · rename_i n
    cases e : getL st n with
    | none => rw [e] at h; cases h
    | some xs =>
      simp only [Rep] at r
      obtain ⟨p, rfl, hp⟩ := r
      obtain ⟨vs, h1, _⟩ := gd.getL hp e
      exact .inl ⟨rfl, vs, h1⟩
  · simp only [Rep] at r
    subst r
    rfl
  · cases h
theorem se_bm {o e : Expr} {es : List Expr} {name : Str} {apos cpos : Pos} {T id : String} {r : V → List V → Hp → VK → Prop} {op : OpM} {f : SE} {g : SA}
    (pa : PlainAttrs T) (slot : Slot T name id) (hty : typeOf (.builtin id) = pure (.type "method_descriptor")) (hm : MtR X id r) (h : OkM X.K X.w r op) (ho : PE X o (rdE X.K X.w f)) (ha : PA X (e :: es) (rdA X.K X.w g))
    (hbase : attributeBase o name X.env (eval o X.env) = eval o X.env := by rfl)
    (hfew : ((backTo cpos (starEach (e :: es) X.env)).all (fun x => !x.1) && (backToKw cpos (keywordEach [] X.env)).all (fun x => x.1.isSome)
      && decide ((e :: es).length + ([] : List Keyword).length + (if ([] : List Keyword).isEmpty then 0 else 1) < 30)) = true := by rfl)
    (hline : (apos.endLine == cpos.line) = true := by rfl) (hs : starEach (e :: es) X.env = (false, eval e X.env) :: starEach es X.env := by rfl) (hplain : (backTo cpos (starEach es X.env)).any (·.1) = false := by rfl) :
    PE X (.Call (.Attribute o name apos) (e :: es) [] cpos) (rdE X.K X.w (bmF T op f g)) :=
  (pe_bm pa slot hty hm ho ha hbase hfew hline hs hplain).weak fun τ H Q ⟨μ, st, σ, d, st', gd, er, hv, k⟩ => by
    obtain ⟨x, s1, h1, hv⟩ := bnd_eq hv
    split at hv
    · rename_i ht
      obtain ⟨xs, s2, h2, hv⟩ := bnd_eq hv
      refine ⟨μ, st, σ, x, s1, gd, er, h1, fun μ1 H1 v g1 d1 r1 => ⟨ty_of d1 r1 ht, ?_⟩⟩
      refine ⟨μ1, s1, σ, xs, s2, d1, er.m g1, h2, fun μ2 H2 vs g2 d2 r2 => ?_⟩
      exact h H2 μ2 s2 x xs v vs d st' Q d2 (r1.m g2) r2 hv fun μ3 H3 v3 g3 d3 r3 => k μ3 H3 v3 ((g1.trans g2).trans g3) d3 r3
    · cases hv
theorem se_bm0 {o : Expr} {name : Str} {apos cpos : Pos} {T id : String} {r : V → List V → Hp → VK → Prop} {op : OpM} {f : SE}
    (pa : PlainAttrs T) (slot : Slot T name id) (hty : typeOf (.builtin id) = pure (.type "method_descriptor")) (hm : MtR X id r) (h : OkM X.K X.w r op) (ho : PE X o (rdE X.K X.w f))
    (hbase : attributeBase o name X.env (eval o X.env) = eval o X.env := by rfl) (hline : (apos.endLine == cpos.line) = true := by rfl) :
    PE X (.Call (.Attribute o name apos) [] [] cpos) (rdE X.K X.w (bm0F T op f)) :=
  (pe_bm0 pa slot hty hm ho hbase hline).weak fun τ H Q ⟨μ, st, σ, d, st', gd, er, hv, k⟩ => by
    obtain ⟨x, s1, h1, hv⟩ := bnd_eq hv
    split at hv
    · rename_i ht
      refine ⟨μ, st, σ, x, s1, gd, er, h1, fun μ1 H1 v g1 d1 r1 => ⟨ty_of d1 r1 ht, ?_⟩⟩
      exact h H1 μ1 s1 x [] v [] d st' Q d1 r1 reps_nil hv fun μ3 H3 v3 g3 d3 r3 => k μ3 H3 v3 (g1.trans g3) d3 r3
    · cases hv
/-! ### slices -/
abbrev SO := Sl → Sto → Option (Option Int × Sto)
def noneO : SO := fun _ st => some (none, st)
def someO (f : SE) : SO := fun σ st => bnd (f σ st) fun x st1 => match x with
  | .int i => some (some i, st1)
  | _ => none
def rdO (K : PySem.W.Frag) (ww : World) (f : SO) : TO := fun τ H Q => ∃ μ st σ o st', Gd K ww H μ st ∧ EnvR K H μ σ τ ∧ f σ st = some (o, st') ∧ ∀ μ' H', Gr H μ H' μ' → Gd K ww H' μ' st' → Q o H'
theorem _root_.L2.PO.weak {X : Cx} {e : Option Expr} {t u : TO} (h : PO X e t) (w : ∀ τ H Q, u τ H Q → t τ H Q) : PO X e u := ⟨fun pins s σ H Q I q => h.run pins s σ H Q I (w σ H Q q)⟩
theorem so_none : PO X none (rdO K ww noneO) := po_none.weak fun τ H Q ⟨μ, st, σ, o, st', gd, er, hv, k⟩ => by
  cases hv
  exact k μ H (Gr.refl H μ) gd
theorem so_some {e : Expr} {f : SE} (h : PE X e (rdE K ww f)) : PO X (some e) (rdO K ww (someO f)) := (po_some h).weak fun τ H Q ⟨μ, st, σ, o, st', gd, er, hv, k⟩ => by
  obtain ⟨x, s1, h1, hv⟩ := bnd_eq hv
  split at hv
  · rename_i i
    cases hv
    refine ⟨μ, st, σ, _, _, gd, er, h1, fun μ1 H1 v g1 d1 r1 => ?_⟩
    simp only [Rep] at r1
    exact ⟨i, r1, k μ1 H1 g1 d1⟩
  · cases hv
abbrev OpS := D → Option Int → Option Int → Sto → Option (D × Sto)
def OkS (K : PySem.W.Frag) (ww : World) (r : V → Option Int → Option Int → Hp → VK → Prop) (o : OpS) : Prop := ∀ H μ st x vx lo hi d st' (Q : VK), Gd K ww H μ st → Rep K H μ x vx → o x lo hi st = some (d, st') →
  (∀ μ' H' v, Gr H μ H' μ' → Gd K ww H' μ' st' → Rep K H' μ' d v → Q v H') → r vx lo hi H Q
def slF (o : OpS) (f : SE) (lo hi : SO) : SE := fun σ st => bnd (f σ st) fun x s1 => bnd (lo σ s1) fun l s2 => bnd (hi σ s2) fun h s3 => o x l h s3
theorem se_slice {e : Expr} {lo hi : Option Expr} {p2 pos : Pos} {r : V → Option Int → Option Int → Hp → VK → Prop} {op : OpS} {f : SE} {l h : SO} (hr : SlR X r) (ok : OkS K ww r op) (he : PE X e (rdE K ww f)) (hl : PO X lo (rdO K ww l)) (hh : PO X hi (rdO K ww h)) :
    PE X (.Subscript e (.Slice lo hi none p2) pos) (rdE K ww (slF op f l h)) := (pe_slice hr he hl hh).weak fun τ H Q ⟨μ, st, σ, d, st', gd, er, hv, k⟩ => by
  obtain ⟨x, s1, h1, hv⟩ := bnd_eq hv
  obtain ⟨a, s2, h2, hv⟩ := bnd_eq hv
  obtain ⟨b, s3, h3, hv⟩ := bnd_eq hv
  refine ⟨μ, st, σ, x, s1, gd, er, h1, fun μ1 H1 v g1 d1 r1 => ?_⟩
  refine ⟨μ1, s1, σ, a, s2, d1, er.m g1, h2, fun μ2 H2 g2 d2 => ?_⟩
  refine ⟨μ2, s2, σ, b, s3, d2, er.m (g1.trans g2), h3, fun μ3 H3 g3 d3 => ?_⟩
  exact ok H3 μ3 s3 x v a b d st' Q d3 (r1.m (g2.trans g3)) hv fun μ4 H4 v4 g4 d4 r4 => k μ4 H4 v4 (((g1.trans g2).trans g3).trans g4) d4 r4

/-! ### statements -/
def nxS : SS := fun σ st => some (.nx σ, st)
def seqS (f g : SS) : SS := fun σ st => match f σ st with
  | some (.nx σ', st1) => g σ' st1
  | r => r
theorem ss_nil : PSs X [] (rdS K ww nxS) := pss_nil.weak fun Dn τ H ⟨μ, st, σ, r, st', gd, er, hv, k⟩ => by
  cases hv
  exact k μ H (Gr.refl H μ) gd τ er
theorem ss_one {s : Stmt} {f : SS} (h : PS X s (rdS K ww f)) : PSs X [s] (rdS K ww f) := pss_one h
theorem ss_cons {s : Stmt} {rest : List Stmt} {f g : SS} (h : PS X s (rdS K ww f)) (h2 : PSs X rest (rdS K ww g)) : PSs X (s :: rest) (rdS K ww (seqS f g)) := (pss_cons h h2).weak fun Dn τ H ⟨μ, st, σ, r, st', gd, er, hv, k⟩ => by
  unfold seqS at hv
  cases e : f σ st with
  | none => rw [e] at hv; cases hv
  | some p =>
    obtain ⟨r1, s1⟩ := p
    rw [e] at hv
    cases r1 with
    | nx σ1 =>
      refine ⟨μ, st, σ, _, s1, gd, er, e, fun μ1 H1 g1 d1 τ1 e1 => ?_⟩
      exact ⟨μ1, s1, σ1, r, st', d1, e1, hv, k.m g1⟩
    | brk σ1 =>
      cases hv
      exact ⟨μ, st, σ, _, _, gd, er, e, k⟩
    | cnt σ1 =>
      cases hv
      exact ⟨μ, st, σ, _, _, gd, er, e, k⟩
    | ret d =>
      cases hv
      exact ⟨μ, st, σ, _, _, gd, er, e, k⟩
theorem ss_pass {pos : Pos} : PS X (.Pass pos) (rdS K ww nxS) := ps_pass.weak fun Dn τ H ⟨μ, st, σ, r, st', gd, er, hv, k⟩ => by
  cases hv
  exact k μ H (Gr.refl H μ) gd τ er
def brkS : SS := fun σ st => some (.brk σ, st)
def cntS : SS := fun σ st => some (.cnt σ, st)
def retNS : SS := fun _ st => some (.ret .non, st)
def neverS : SS := fun _ _ => none
theorem ss_break {pos : Pos} : PS X (.Break pos) (rdS K ww brkS) := ps_break.weak fun Dn τ H ⟨μ, st, σ, r, st', gd, er, hv, k⟩ => by
  cases hv
  exact k μ H (Gr.refl H μ) gd τ er
theorem ss_continue {pos : Pos} : PS X (.Continue pos) (rdS K ww cntS) := ps_continue.weak fun Dn τ H ⟨μ, st, σ, r, st', gd, er, hv, k⟩ => by
  cases hv
  exact k μ H (Gr.refl H μ) gd τ er
theorem ss_retN {pos : Pos} : PS X (.Return none pos) (rdS K ww retNS) := ps_retN.weak fun Dn τ H ⟨μ, st, σ, r, st', gd, er, hv, k⟩ => by
  cases hv
  exact k μ H (Gr.refl H μ) gd .non (by simp only [Rep])
theorem ss_never {s : Stmt} : PS X s (rdS K ww neverS) := ps_never.weak fun Dn τ H ⟨μ, st, σ, r, st', gd, er, hv, k⟩ => by cases hv
def exS (f : SE) : SS := fun σ st => bnd (f σ st) fun _ st1 => some (.nx σ, st1)
theorem ss_expr {e : Expr} {f : SE} {pos : Pos} (he : PE X e (rdE K ww f)) (hs : swapsWith e none pos.line X.env = pure false := by rfl) : PS X (.Expr e pos) (rdS K ww (exS f)) := (ps_expr he hs).weak fun Dn τ H ⟨μ, st, σ, r, st', gd, er, hv, k⟩ => by
  obtain ⟨x, s1, h1, hv⟩ := bnd_eq hv
  cases hv
  exact ⟨μ, st, σ, x, _, gd, er, h1, fun μ1 H1 v g1 d1 r1 => k μ1 H1 g1 d1 τ (er.m g1)⟩
def retS (f : SE) : SS := fun σ st => bnd (f σ st) fun d st1 => some (.ret d, st1)
theorem ss_ret {e : Expr} {f : SE} {pos : Pos} (he : PE X e (rdE K ww f)) : PS X (.Return (some e) pos) (rdS K ww (retS f)) := (ps_ret he).weak fun Dn τ H ⟨μ, st, σ, r, st', gd, er, hv, k⟩ => by
  obtain ⟨x, s1, h1, hv⟩ := bnd_eq hv
  cases hv
  exact ⟨μ, st, σ, x, _, gd, er, h1, fun μ1 H1 v g1 d1 r1 => k μ1 H1 g1 d1 v r1⟩
def ifS (c : ST) (f g : SS) : SS := fun σ st => bnd (c σ st) fun b st1 => if b = true then f σ st1 else g σ st1
theorem ss_if {c : Expr} {a b : List Stmt} {t : ST} {f g : SS} {pos : Pos} (hc : PT X c (rdT K ww t)) (ha : PSs X a (rdS K ww f)) (hb : PSs X b (rdS K ww g)) : PS X (.If c a b pos) (rdS K ww (ifS t f g)) := (ps_if hc ha hb).weak fun Dn τ H ⟨μ, st, σ, r, st', gd, er, hv, k⟩ => by
  obtain ⟨y, s1, h1, hv⟩ := bnd_eq hv
  refine ⟨μ, st, σ, y, s1, gd, er, h1, fun μ1 H1 g1 d1 => ?_⟩
  cases y with
  | true => exact ⟨μ1, s1, σ, r, st', d1, er.m g1, hv, k.m g1⟩
  | false => exact ⟨μ1, s1, σ, r, st', d1, er.m g1, hv, k.m g1⟩

/-! ### targets -/
abbrev Tg := D → Sl → Option Sl
def nmG (i : Nat) : Tg := fun d σ => some (σ.set i (some d))
def nmsG : List Nat → List D → Sl → Option Sl
  | [], [], σ => some σ
  | i :: is, d :: ds, σ => nmsG is ds (σ.set i (some d))
  | _, _, _ => none
def tupG (is : List Nat) : Tg := fun d σ => match d with
  | .tup ds => nmsG is ds σ
  | _ => none
def OkG (K : PySem.W.Frag) (gg : TG) (g : Tg) : Prop := ∀ H μ σ τ d v σ1 (Q : L2.St → Hp → Prop), EnvR K H μ σ τ → Rep K H μ d v → g d σ = some σ1 → (∀ τ1, EnvR K H μ σ1 τ1 → Q τ1 H) → gg v τ H Q
def OkGs (K : PySem.W.Frag) (gg : TGs) (is : List Nat) : Prop := ∀ H μ σ τ ds vs σ1 (Q : L2.St → Hp → Prop), EnvR K H μ σ τ → Reps K H μ ds vs → nmsG is ds σ = some σ1 → (∀ τ1, EnvR K H μ σ1 τ1 → Q τ1 H) → gg vs τ H Q
theorem ok_name {i : Nat} : OkG K (gName i) (nmG i) := fun H μ σ τ d v σ1 Q er r e k => by
  cases e
  exact k _ (er.set i r)
theorem ok_gnil : OkGs K gNil [] := fun H μ σ τ ds vs σ1 Q er r e k => by
  cases ds with
  | nil =>
    cases e
    simp only [Reps] at r
    exact ⟨r, k τ er⟩
  | cons _ _ => cases e
theorem ok_gcons {i : Nat} {is : List Nat} {u : TGs} (h : OkGs K u is) : OkGs K (gCons (gName i) u) (i :: is) := fun H μ σ τ ds vs σ1 Q er r e k => by
  cases ds with
  | nil => cases e
  | cons d ds =>
    simp only [Reps] at r
    obtain ⟨v, ws, rfl, r1, r2⟩ := r
    exact ⟨v, ws, rfl, h H μ _ _ ds ws σ1 Q (er.set i r1) r2 e k⟩
theorem nms_len : ∀ {is : List Nat} {ds : List D} {σ σ1 : Sl}, nmsG is ds σ = some σ1 → ds.length = is.length
  | [], [], _, _, _ => rfl
  | i :: is, d :: ds, σ, σ1, h => by rw [List.length_cons, List.length_cons, nms_len (is := is) (ds := ds) h]
  | [], _ :: _, _, _, h => by cases h
  | _ :: _, [], _, _, h => by cases h
theorem ok_tup {is : List Nat} {n : Nat} {u : TGs} (h : OkGs K u is) (hn : is.length = n) : OkG K (gTup K n u) (tupG is) := fun H μ σ τ d v σ1 Q er r e k => by
  cases d with
  | tup ds =>
    simp only [Rep] at r
    obtain ⟨p, vs, rfl, ⟨s, _⟩, rs⟩ := r
    exact ⟨p, vs, rfl, s, by rw [← rs.len, nms_len e, hn], h H μ σ τ ds vs σ1 Q er rs e k⟩
  | non => cases e
  | bl _ => cases e
  | int _ => cases e
  | str _ => cases e
  | loc _ => cases e
def asgS (g : Tg) (f : SE) : SS := fun σ st => bnd (f σ st) fun d st1 => (g d σ).map fun σ1 => (.nx σ1, st1)
theorem rd_asg {g : Tg} {gg : TG} {f : SE} (hg : OkG K gg g) : ∀ Dn τ H, rdS K ww (asgS g f) Dn τ H → tAsg (rdE K ww f) gg Dn τ H := fun Dn τ H ⟨μ, st, σ, r, st', gd, er, hv, k⟩ => by
  obtain ⟨x, s1, h1, hv⟩ := bnd_eq hv
  cases e : g x σ with
  | none => rw [e] at hv; cases hv
  | some σ1 =>
    rw [e] at hv
    cases hv
    exact ⟨μ, st, σ, x, _, gd, er, h1, fun μ1 H1 v g1 d1 r1 => hg H1 μ1 σ τ x v σ1 _ (er.m g1) r1 e fun τ1 e1 => k μ1 H1 g1 d1 τ1 e1⟩
theorem ss_set {i : Nat} {x : Str} {e : Expr} {f : SE} {pos pos' : Pos} (hN : X.N.Nodup) (hi : X.N[i]? = some x) (hx : Loc X.env.scope x) (he : PE X e (rdE K ww f)) (hs : swapsWith e (some (.Name x pos')) pos.line X.env = pure false := by rfl) (hf : X.fn x = true ∨ X.env.scope.names.lookup x = some .local := by first | exact .inl rfl | exact .inr rfl | assumption) :
    PS X (.Assign [.Name x pos'] e pos) (rdS K ww (asgS (nmG i) f)) := (ps_set hN hi hx he hs hf).weak (rd_asg ok_name)
theorem ss_asg {tg e : Expr} {gg : TG} {g : Tg} {f : SE} {pos : Pos} (he : PE X e (rdE K ww f)) (hg : PG X tg gg) (ok : OkG K gg g) (hs : swapsWithSole [tg] e pos.line X.env = pure false := by rfl) (hw : swappedStores [tg] e X.env = pure none := by rfl)
    (ha : List.map (fun x => x.2) (assignEach [tg] X.env) = [assign tg X.env] := by rfl) : PS X (.Assign [tg] e pos) (rdS K ww (asgS g f)) := (ps_asg he hg hs hw ha).weak (rd_asg ok)
/-- o[i] = e, o a list -/
def setS (fo fi f : SE) : SS := fun σ st => bnd (f σ st) fun d s1 => bnd (fo σ s1) fun o s2 => bnd (fi σ s2) fun i s3 => match o, i with
  | .loc n, .int k => (getM s3 n).bind fun xs => (ixN xs.length k).map fun j => (.nx σ, s3.set n (.lst (xs.set j d)))
  | _, _ => none
theorem ss_setIx {o i e : Expr} {f fo fi : SE} {pos p1 : Pos} (he : PE X e (rdE K ww f)) (ho : PE X o (rdE K ww fo)) (hi : PE X i (rdE K ww fi)) (hs : swapsWithSole [.Subscript o i p1] e pos.line X.env = pure false := by rfl) (hw : swappedStores [.Subscript o i p1] e X.env = pure none := by rfl)
    (ha : List.map (fun x => x.2) (assignEach [.Subscript o i p1] X.env) = [assign (.Subscript o i p1) X.env] := by rfl) (hpg : PG X (.Subscript o i p1) (gSub (rdE K ww fo) (rdE K ww fi) rSetL)) : PS X (.Assign [.Subscript o i p1] e pos) (rdS K ww (setS fo fi f)) := (ps_asg he hpg hs hw ha).weak fun Dn τ H ⟨μ, st, σ, r, st', gd, er, hv, k⟩ => by
  obtain ⟨x, s1, h1, hv⟩ := bnd_eq hv
  obtain ⟨y, s2, h2, hv⟩ := bnd_eq hv
  obtain ⟨z, s3, h3, hv⟩ := bnd_eq hv
  refine ⟨μ, st, σ, x, s1, gd, er, h1, fun μ1 H1 v g1 d1 r1 => ?_⟩
  refine ⟨μ1, s1, σ, y, s2, d1, er.m g1, h2, fun μ2 H2 vo g2 d2 r2 => ?_⟩
  refine ⟨μ2, s2, σ, z, s3, d2, er.m (g1.trans g2), h3, fun μ3 H3 vi g3 d3 r3 => ?_⟩
  cases y with
  | loc n =>
    cases z with
    | int kk =>
      cases e1 : getM s3 n with
      | none => simp only [e1, Option.bind_none] at hv; cases hv
      | some xs =>
        simp only [e1, Option.bind_some] at hv
        cases e2 : ixN xs.length kk with
        | none => rw [e2] at hv; cases hv
        | some j =>
          rw [e2] at hv
          cases hv
          have r2' := r2.m g3
          simp only [Rep] at r2' r3
          obtain ⟨p, rfl, hp⟩ := r2'
          obtain ⟨vs, hH, rs⟩ := d3.getM hp e1
          have gw : Gr H3 μ3 (upd H3 p (.lst (vs.set j v))) μ3 := gr_write hH
          exact ⟨p, vs, kk, j, rfl, r3, hH, by rw [← rs.len]; exact e2, k μ3 _ (((g1.trans g2).trans g3).trans gw) (d3.write hp (getM_get e1) hH (rs.set (r1.m (g2.trans g3)))) τ (er.m (((g1.trans g2).trans g3).trans gw))⟩
    | _ => cases hv
  | _ => cases hv
def augS (i : Nat) (o : Op2) (f : SE) : SS := fun σ st => match σ[i]? with
  | some (some x) => bnd (f σ st) fun y s1 => bnd (o x y s1) fun z s2 => some (.nx (σ.set i (some z)), s2)
  | _ => none
theorem ss_aug {i : Nat} {x : Str} {e : Expr} {f : SE} {op : Operator} {ti : TIp} {o : Op2} {pos pos' : Pos} (hN : X.N.Nodup) (hi : X.N[i]? = some x) (hx : Loc X.env.scope x) (he : PE X e (rdE K ww f)) (ho : PIp X op ti) (ok : Ok2 K ww ti o) (hf : X.fn x = true ∨ X.env.scope.names.lookup x = some .local := by first | exact .inl rfl | exact .inr rfl | assumption) :
    PS X (.AugAssign (.Name x pos') op e pos) (rdS K ww (augS i o f)) := (ps_aug hN hi hx he ho hf).weak fun Dn τ H ⟨μ, st, σ, r, st', gd, er, hv, k⟩ => by
  unfold augS at hv
  split at hv
  · rename_i d e1
    obtain ⟨y, s1, h1, hv⟩ := bnd_eq hv
    obtain ⟨z, s2, h2, hv⟩ := bnd_eq hv
    cases hv
    obtain ⟨v, hv1, r1⟩ := er.2 i d e1
    refine ⟨v, hv1, μ, st, σ, y, s1, gd, er, h1, fun μ1 H1 w g1 d1 r2 => ?_⟩
    exact ok H1 μ1 s1 d y v w z _ _ d1 (r1.m g1) r2 h2 fun μ3 H3 v3 g3 d3 r3 => k μ3 H3 (g1.trans g3) d3 _ ((er.m (g1.trans g3)).set i r3)
  · cases hv
end
end Iv

namespace Iv
open PySem L2
section
variable {X : Cx} {K : PySem.W.Frag} {ww : World}
/-! ### while -/
def whlV (c : ST) (b : SS) : Nat → Sl → Sto → Option (R × Sto)
  | 0, _, _ => none
  | m + 1, σ, st => bnd (c σ st) fun t s1 => if t = true then (match b σ s1 with
      | some (.nx σ2, s2) => whlV c b m σ2 s2
      | some (.cnt σ2, s2) => whlV c b m σ2 s2
      | some (.brk σ2, s2) => some (.nx σ2, s2)
      | some (.ret d, s2) => some (.ret d, s2)
      | none => none) else some (.nx σ, s1)
def whlS (n : Nat) (c : ST) (b : SS) : SS := fun σ st => whlV c b n σ st
theorem ss_while {n : Nat} {c : Expr} {body : List Stmt} {t : ST} {b : SS} {pos : Pos} (hp : PassesOwn (model X.prog X.w) X.A X.env X.xe) (hc : PT X c (rdT K ww t)) (hb : PSs X body (rdS K ww b)) : PS X (.While c body [] pos) (rdS K ww (whlS n t b)) :=
  (ps_while hp hc hb).weak fun Dn τ H ⟨μ, st, σ, r, st', gd, er, hv, k⟩ => by
    refine ⟨fun m τ1 H1 => ∃ μ1 s1 σ1, Gd K ww H1 μ1 s1 ∧ EnvR K H1 μ1 σ1 τ1 ∧ whlV t b m σ1 s1 = some (r, st') ∧ Fin K ww H1 μ1 st' Dn r, ⟨n, μ, st, σ, gd, er, hv, k⟩, ?_⟩
    rintro m τ1 H1 ⟨μ1, s1, σ1, d1, e1, hv1, k1⟩
    cases m with
    | zero => cases hv1
    | succ m =>
      unfold whlV at hv1
      obtain ⟨y, s2, h2, hv1⟩ := bnd_eq hv1
      refine ⟨μ1, s1, σ1, y, s2, d1, e1, h2, fun μ2 H2 g2 d2 => ?_⟩
      cases y with
      | false =>
        cases hv1
        exact k1 μ2 H2 g2 d2 τ1 (e1.m g2)
      | true =>
        rw [if_pos rfl] at hv1 ⊢
        refine ⟨fun τ3 H3 => ∃ μ3 s3 σ3, Gd K ww H3 μ3 s3 ∧ EnvR K H3 μ3 σ3 τ3 ∧ whlV t b m σ3 s3 = some (r, st') ∧ Fin K ww H3 μ3 st' Dn r, fun τ3 H3 q => ⟨m, Nat.lt_succ_self m, q⟩, ?_⟩
        cases eb : b σ1 s2 with
        | none => rw [eb] at hv1; cases hv1
        | some p =>
          obtain ⟨r3, s3⟩ := p
          rw [eb] at hv1
          refine ⟨μ2, s2, σ1, r3, s3, d2, e1.m g2, eb, fun μ4 H4 g4 d4 => ?_⟩
          cases r3 with
          | nx σ3 => exact fun τ4 e4 => ⟨μ4, s3, σ3, d4, e4, hv1, k1.m (g2.trans g4)⟩
          | cnt σ3 => exact fun τ4 e4 => ⟨μ4, s3, σ3, d4, e4, hv1, k1.m (g2.trans g4)⟩
          | brk σ3 =>
            cases hv1
            exact fun τ4 e4 => k1 μ4 H4 (g2.trans g4) d4 τ4 e4
          | ret d =>
            cases hv1
            exact fun v rv => k1 μ4 H4 (g2.trans g4) d4 v rv

/-! ### what a loop walks -/
def enumD : Nat → List D → List D
  | _, [] => []
  | i, d :: ds => .tup [.int (i : Int), d] :: enumD (i + 1) ds
def zipD : List D → List D → List D
  | x :: xs, y :: ys => .tup [x, y] :: zipD xs ys
  | _, _ => []
theorem zipD_len : ∀ xs ys : List D, (zipD xs ys).length = min xs.length ys.length
  | [], _ => by simp [zipD]
  | _ :: _, [] => by simp [zipD]
  | x :: xs, y :: ys => by simp only [zipD, List.length_cons, zipD_len xs ys]; omega
theorem zipD_get : ∀ (xs ys : List D) (i : Nat), (zipD xs ys)[i]? = (match xs[i]?, ys[i]? with
    | some x, some y => some (.tup [x, y])
    | _, _ => none)
  | [], ys, i => by simp [zipD]
  | _ :: _, [], i => by
    simp only [zipD, List.getElem?_nil]
    split <;> rename_i h <;> simp_all
  | x :: xs, y :: ys, 0 => by simp [zipD]
  | x :: xs, y :: ys, i + 1 => by simp only [zipD, List.getElem?_cons_succ]; exact zipD_get xs ys i
/-- a pair that is not of texts alone -/
def notTx : D → Bool
  | .tup ps => !nst ps
  | _ => true
inductive It where
  | cns (xs : List D) | lst (n : Nat) | enm (n : Nat) | zip (n m : Nat)
def items : It → Sto → Option (List D)
  | .cns xs, _ => some xs
  | .lst n, st => getL st n
  | .enm n, st => (getL st n).map (enumD 0)
  | .zip n m, st => match getL st n, getL st m with
    | some xs, some ys => if (zipD xs ys).all notTx = true then some (zipD xs ys) else none
    | _, _ => none
abbrev SJ := Sl → Sto → Option (It × Sto)
def ItR (K : PySem.W.Frag) (ww : World) (H : Hp) (μ : List Addr) (J : It) (J' : L2.It) : Prop := ∀ μ2 H2 st2 xs, Gr H μ H2 μ2 → Gd K ww H2 μ2 st2 → items J st2 = some xs →
  (∀ i, xs.length ≤ i → J'.stop i H2) ∧ ∀ (i : Nat) (d : D), xs[i]? = some d → J'.go i H2 ∧ ∀ x H3, J'.yld i H2 x H3 → Same H2 H3 ∧ Rep K H3 μ2 d x
def rdI (K : PySem.W.Frag) (ww : World) (f : SJ) : TI := fun τ H R => ∃ μ st σ J st', Gd K ww H μ st ∧ EnvR K H μ σ τ ∧ f σ st = some (J, st') ∧ ∀ μ' H' J', Gr H μ H' μ' → Gd K ww H' μ' st' → ItR K ww H' μ' J J' → R J' H'
def charsD (x : Str) : List D := x.cps.toList.map fun c => .str ⟨#[c]⟩
def anyI (f : SE) : SJ := fun σ st => bnd (f σ st) fun d s1 => match d with
  | .loc n => (getL s1 n).map fun _ => (.lst n, s1)
  | .tup xs => some (.cns xs, s1)
  | .str x => some (.cns (charsD x), s1)
  | _ => none
theorem sql_inj {H : Hp} {p : Addr} {xs ys : List V} {h1 : Prop} (_ : h1) (a : SqL K H p xs) (b : SqL K H p ys) (inj : ∀ {a b}, SqL K H p a → SqL K H p b → a = b) : xs = ys := inj a b
theorem si_any {tg e : Expr} {f : SE} (h : PE X e (rdE X.K X.w f)) : PI X tg e (rdI X.K X.w (anyI f)) := ⟨fun pins s τ H R I hw => by
  obtain ⟨μ, st, σ, J, st', gd, er, hv, k⟩ := hw
  obtain ⟨d, s1, h1, hv⟩ := bnd_eq hv
  cases d with
  | loc n =>
    cases e1 : getL s1 n with
    | none => simp only [e1, Option.map_none] at hv; cases hv
    | some xs =>
      simp only [e1, Option.map_some] at hv
      cases hv
      refine (pi_list h).run pins s τ H R I ⟨μ, st, σ, _, _, gd, er, h1, fun μ1 H1 v g1 d1 r1 => ?_⟩
      simp only [Rep] at r1
      obtain ⟨p, rfl, hp⟩ := r1
      obtain ⟨vs, hs, rs⟩ := d1.getL hp e1
      refine ⟨p, rfl, ⟨vs, hs⟩, k μ1 H1 _ g1 d1 fun μ2 H2 st2 ys g2 d2 e2 => ?_⟩
      obtain ⟨ws, hs2, rs2⟩ := d2.getL (g2.get hp) e2
      refine ⟨fun i hi => ⟨ws, hs2, by rw [← rs2.len]; exact hi⟩, fun i d hd => ?_⟩
      obtain ⟨v, hv1, rv⟩ := rs2.get hd
      exact ⟨⟨ws, v, hs2, hv1⟩, fun x H3 ⟨e3, y⟩ => by
        subst e3
        have e4 := y ws hs2
        rw [hv1] at e4
        cases e4
        exact ⟨Same.refl _, rv⟩⟩
  | tup xs =>
    cases hv
    refine (pi_tup h).run pins s τ H R I ⟨μ, st, σ, _, _, gd, er, h1, fun μ1 H1 v g1 d1 r1 => ?_⟩
    have r1' := r1
    simp only [Rep] at r1
    obtain ⟨p, vs, rfl, ⟨hs, _⟩, rs⟩ := r1
    refine ⟨p, rfl, ⟨vs, hs⟩, k μ1 H1 _ g1 d1 fun μ2 H2 st2 ys g2 d2 e2 => ?_⟩
    cases e2
    have hs2 := g2.1.sqT hs
    have rs2 := rs.m g2
    refine ⟨fun i hi => ⟨vs, hs2, by rw [← rs2.len]; exact hi⟩, fun i d hd => ?_⟩
    obtain ⟨v, hv1, rv⟩ := rs2.get hd
    exact ⟨⟨vs, v, hs2, hv1⟩, fun x H3 ⟨e3, y⟩ => by
      subst e3
      have e4 := y vs hs2
      rw [hv1] at e4
      cases e4
      exact ⟨Same.refl _, rv⟩⟩
  | str x =>
    cases hv
    refine (pi_str h).run pins s τ H R I ⟨μ, st, σ, _, _, gd, er, h1, fun μ1 H1 v g1 d1 r1 => ?_⟩
    simp only [Rep] at r1
    refine ⟨x, r1, k μ1 H1 _ g1 d1 fun μ2 H2 st2 ys g2 d2 e2 => ?_⟩
    cases e2
    refine ⟨fun i hi => (show x.cps.size ≤ i by simpa [charsD] using hi), fun i d hd => ?_⟩
    unfold charsD at hd
    rw [List.getElem?_map] at hd
    cases e5 : x.cps.toList[i]? with
    | none => rw [e5] at hd; cases hd
    | some c =>
      rw [e5] at hd
      cases hd
      have e6 : x.cps[i]? = some c := by simpa using e5
      refine ⟨(Array.getElem?_eq_some_iff.mp e6).1, fun z H3 ⟨e3, c', e7, e8⟩ => ?_⟩
      subst e3
      rw [e6] at e7
      cases e7
      exact ⟨Same.refl _, by simp only [Rep]; exact e8⟩
  | non => cases hv
  | bl _ => cases hv
  | int _ => cases hv⟩
def rngD (lo : Int) : Nat → List D
  | n => (List.range n).map fun i => .int (lo + (i : Nat))
def rngI1 (f : SA) : SJ := fun σ st => bnd (f σ st) fun ds s1 => match ds with
  | [.int j] => if -(2 ^ 62) ≤ j ∧ j < 2 ^ 62 then some (.cns (rngD 0 j.toNat), s1) else none
  | _ => none
def rngI2 (f : SA) : SJ := fun σ st => bnd (f σ st) fun ds s1 => match ds with
  | [.int i, .int j] => if -(2 ^ 62) ≤ i ∧ i < 2 ^ 62 ∧ -(2 ^ 62) ≤ j ∧ j < 2 ^ 62 then some (.cns (rngD i (j - i).toNat), s1) else none
  | _ => none
theorem itr_rng {H : Hp} {μ : List Addr} {lo : Int} {n : Nat} : ItR K ww H μ (.cns (rngD lo n)) (Itr lo n) := fun μ2 H2 st2 xs g2 d2 e2 => by
  cases e2
  refine ⟨fun i hi => (show n ≤ i by simpa [rngD] using hi), fun i d hd => ?_⟩
  unfold rngD at hd
  rw [List.getElem?_map] at hd
  by_cases hi : i < n
  · rw [List.getElem?_range hi] at hd
    cases hd
    exact ⟨hi, fun x H3 ⟨e3, e4⟩ => by subst e3; exact ⟨Same.refl _, by simp only [Rep]; exact e4⟩⟩
  · rw [List.getElem?_eq_none (by simpa using hi)] at hd
    cases hd
theorem reps1 {H : Hp} {μ : List Addr} {d : D} {vs : List V} (h : Reps K H μ [d] vs) : ∃ v, vs = [v] ∧ Rep K H μ d v := by
  simp only [Reps] at h
  obtain ⟨v, ws, rfl, r, rfl⟩ := h
  exact ⟨v, rfl, r⟩
theorem reps2 {H : Hp} {μ : List Addr} {d e : D} {vs : List V} (h : Reps K H μ [d, e] vs) : ∃ v w, vs = [v, w] ∧ Rep K H μ d v ∧ Rep K H μ e w := by
  simp only [Reps] at h
  obtain ⟨v, ws, rfl, r, w, us, rfl, r2, rfl⟩ := h
  exact ⟨v, w, rfl, r, r2⟩
theorem si_rng1 {tg a : Expr} {f : SA} {p pos : Pos} (hg : Gl X "range") (hm : X.mg "range" = none) (ha : PA X [a] (rdA K ww f)) (hs : starEach [a] X.env = [(false, eval a X.env)] := by rfl) : PI X tg (.Call (.Name "range" p) [a] [] pos) (rdI K ww (rngI1 f)) := ⟨fun pins s τ H R I hw => by
  obtain ⟨μ, st, σ, J, st', gd, er, hv, k⟩ := hw
  obtain ⟨ds, s1, h1, hv⟩ := bnd_eq hv
  split at hv
  · split at hv
    · rename_i j hj
      cases hv
      refine (pi_range1 hg hm ha hs).run pins s τ H R I ⟨μ, st, σ, _, _, gd, er, h1, fun μ1 H1 vs g1 d1 r1 => ?_⟩
      obtain ⟨v, rfl, rv⟩ := reps1 r1
      simp only [Rep] at rv
      subst rv
      exact ⟨_, rfl, hj.1, hj.2, k μ1 H1 _ g1 d1 itr_rng⟩
    · cases hv
  · cases hv⟩
theorem si_rng2 {tg a b : Expr} {f : SA} {p pos : Pos} (hg : Gl X "range") (hm : X.mg "range" = none) (ha : PA X [a, b] (rdA K ww f)) (hs : starEach [a, b] X.env = [(false, eval a X.env), (false, eval b X.env)] := by rfl) (hs2 : starEach [b] X.env = [(false, eval b X.env)] := by rfl) : PI X tg (.Call (.Name "range" p) [a, b] [] pos) (rdI K ww (rngI2 f)) := ⟨fun pins s τ H R I hw => by
  obtain ⟨μ, st, σ, J, st', gd, er, hv, k⟩ := hw
  obtain ⟨ds, s1, h1, hv⟩ := bnd_eq hv
  split at hv
  · split at hv
    · rename_i i j hj
      cases hv
      refine (pi_range2 hg hm ha hs hs2).run pins s τ H R I ⟨μ, st, σ, _, _, gd, er, h1, fun μ1 H1 vs g1 d1 r1 => ?_⟩
      obtain ⟨v, w, rfl, rv, rw'⟩ := reps2 r1
      simp only [Rep] at rv rw'
      subst rv rw'
      exact ⟨_, _, rfl, hj, k μ1 H1 _ g1 d1 itr_rng⟩
    · cases hv
  · cases hv⟩
theorem enumD_get : ∀ (xs : List D) (k i : Nat), (enumD k xs)[i]? = xs[i]?.map fun d => .tup [.int ((k + i : Nat) : Int), d]
  | [], _, _ => by simp [enumD]
  | x :: xs, k, 0 => by simp [enumD]
  | x :: xs, k, i + 1 => by
    simp only [enumD, List.getElem?_cons_succ]
    rw [enumD_get xs (k + 1) i]
    congr 1
    funext d
    congr 4
    omega
theorem enumD_len : ∀ (xs : List D) (k : Nat), (enumD k xs).length = xs.length
  | [], _ => rfl
  | x :: xs, k => by simp only [enumD, List.length_cons, enumD_len xs (k + 1)]
def enmI (f : SA) : SJ := fun σ st => bnd (f σ st) fun ds s1 => match ds with
  | [.loc n] => (getL s1 n).map fun _ => (.enm n, s1)
  | _ => none
theorem si_enum {e : Expr} {f : SA} {p pos tpos : Pos} {elts : List Expr} {kk : Nat} (hg : Gl X "enumerate") (hm : X.mg "enumerate" = none) (ha : PA X [e] (rdA X.K X.w f)) (hs : starEach [e] X.env = [(false, eval e X.env)] := by rfl) :
    PI X (.Tuple elts kk tpos) (.Call (.Name "enumerate" p) [e] [] pos) (rdI X.K X.w (enmI f)) := ⟨fun pins s τ H R I hw => by
  obtain ⟨μ, st, σ, J, st', gd, er, hv, k⟩ := hw
  obtain ⟨ds, s1, h1, hv⟩ := bnd_eq hv
  split at hv
  · rename_i n
    cases e1 : getL s1 n with
    | none => rw [e1] at hv; cases hv
    | some xs =>
      rw [e1] at hv
      cases hv
      refine (pi_enum hg hm ha hs).run pins s τ H R I ⟨μ, st, σ, _, _, gd, er, h1, fun μ1 H1 vs g1 d1 r1 => ?_⟩
      obtain ⟨v, rfl, rv⟩ := reps1 r1
      simp only [Rep] at rv
      obtain ⟨p, rfl, hp⟩ := rv
      obtain ⟨ws, hs, rs⟩ := d1.getL hp e1
      refine ⟨p, ws, rfl, hs, k μ1 H1 _ g1 d1 fun μ2 H2 st2 ys g2 d2 e2 => ?_⟩
      simp only [items] at e2
      cases e3 : getL st2 n with
      | none => rw [e3] at e2; cases e2
      | some zs =>
        rw [e3] at e2
        cases e2
        obtain ⟨us, hs2, rs2⟩ := d2.getL (g2.get hp) e3
        refine ⟨fun i hi => ⟨us, hs2, by rw [← rs2.len, ← enumD_len zs 0]; exact hi⟩, fun i d hd => ?_⟩
        rw [enumD_get] at hd
        cases e4 : zs[i]? with
        | none => rw [e4] at hd; cases hd
        | some z =>
          rw [e4] at hd
          cases hd
          obtain ⟨v, hv1, rv⟩ := rs2.get e4
          refine ⟨⟨us, v, hs2, hv1⟩, fun x H3 ⟨T, y, e5, e6, e7, e8⟩ => ?_⟩
          subst e5 e7
          have e9 := e8 us hs2
          rw [hv1] at e9
          cases e9
          have gt : Gr H2 μ2 (upd H2 T (.tup [.int (i : Nat), v])) μ2 := gr_tup e6
          refine ⟨same_upd e6, rep_tup (.inl (.inl upd_same)) (fun z => by cases z) (reps_cons ?_ (reps_cons (rv.m gt) reps_nil))⟩
          simp only [Rep, Nat.zero_add]
  · cases hv⟩

/-! ### for -/
def forV (J : It) (g : Tg) (b : SS) : Nat → Nat → Sl → Sto → Option (R × Sto)
  | 0, _, _, _ => none
  | m + 1, i, σ, st => match items J st with
    | none => none
    | some xs => match xs[i]? with
      | none => some (.nx σ, st)
      | some d => match g d σ with
        | none => none
        | some σ1 => match b σ1 st with
          | some (.nx σ2, s2) => forV J g b m (i + 1) σ2 s2
          | some (.cnt σ2, s2) => forV J g b m (i + 1) σ2 s2
          | some (.brk σ2, s2) => some (.nx σ2, s2)
          | some (.ret d, s2) => some (.ret d, s2)
          | none => none
def forS (i : SJ) (g : Tg) (b : SS) : SS := fun σ st => bnd (i σ st) fun J s1 => match items J s1 with
  | none => none
  | some xs => forV J g b (xs.length + 1) 0 σ s1
theorem ss_for {tg iter : Expr} {body : List Stmt} {i : SJ} {gg : TG} {g : Tg} {b : SS} {pos : Pos} (hp : PassesOwn (model X.prog X.w) X.A X.env X.xe) (hc : X.calm = true) (hi : PI X tg iter (rdI K ww i)) (hg : PG X tg gg) (ok : OkG K gg g) (hb : PSs X body (rdS K ww b))
    (hs : ∀ x, foldedSetIterable iter X.env x = pure x := by intro _; rfl) : PS X (.For tg iter body [] pos) (rdS K ww (forS i g b)) :=
  (ps_for hp hc hi hg hb hs).weak fun Dn τ H ⟨μ, st, σ, r, st', gd, er, hv, k⟩ => by
    obtain ⟨J, s1, h1, hv⟩ := bnd_eq hv
    cases ei : items J s1 with
    | none => simp only [ei] at hv; cases hv
    | some xs =>
      simp only [ei] at hv
      refine ⟨μ, st, σ, J, s1, gd, er, h1, fun μ0 H0 J' g0 d0 iR => ?_⟩
      refine ⟨fun i m τ1 H1 => ∃ μ1 s1 σ1, Gr H0 μ0 H1 μ1 ∧ Gd K ww H1 μ1 s1 ∧ EnvR K H1 μ1 σ1 τ1 ∧ forV J g b m i σ1 s1 = some (r, st') ∧ Fin K ww H1 μ1 st' Dn r, ⟨_, μ0, s1, σ, Gr.refl _ _, d0, er.m g0, hv, k.m g0⟩, ?_⟩
      rintro i m τ1 H1 ⟨μ1, s2, σ1, g1, d1, e1, hv1, k1⟩
      cases m with
      | zero => cases hv1
      | succ m =>
        unfold forV at hv1
        cases e2 : items J s2 with
        | none => simp only [e2] at hv1; cases hv1
        | some ys =>
          simp only [e2] at hv1
          obtain ⟨q1, q2⟩ := iR μ1 H1 s2 ys g1 d1 e2
          cases e3 : ys[i]? with
          | none =>
            simp only [e3] at hv1
            cases hv1
            exact .inl ⟨q1 i (by simpa using e3), k1 μ1 H1 (Gr.refl _ _) d1 τ1 e1⟩
          | some d =>
            simp only [e3] at hv1
            obtain ⟨q3, q4⟩ := q2 i d e3
            refine .inr ⟨q3, fun τ3 H3 => ∃ μ3 s3 σ3, Gr H0 μ0 H3 μ3 ∧ Gd K ww H3 μ3 s3 ∧ EnvR K H3 μ3 σ3 τ3 ∧ forV J g b m (i + 1) σ3 s3 = some (r, st') ∧ Fin K ww H3 μ3 st' Dn r, fun τ3 H3 q => ⟨m, Nat.lt_succ_self m, q⟩, fun x H2 y => ?_⟩
            obtain ⟨sm, rx⟩ := q4 x H2 y
            have gs : Gr H1 μ1 H2 μ1 := ⟨Keeps.same sm, [], by simp⟩
            have d2 := d1.same sm
            cases e4 : g d σ1 with
            | none => simp only [e4] at hv1; cases hv1
            | some σ2 =>
              simp only [e4] at hv1
              refine ok H2 μ1 σ1 τ1 d x σ2 _ (e1.m gs) rx e4 fun τ2 e5 => ?_
              cases eb : b σ2 s2 with
              | none => simp only [eb] at hv1; cases hv1
              | some p =>
                obtain ⟨r3, s3⟩ := p
                simp only [eb] at hv1
                refine ⟨μ1, s2, σ2, r3, s3, d2, e5, eb, fun μ4 H4 g4 d4 => ?_⟩
                have g5 : Gr H1 μ1 H4 μ4 := gs.trans g4
                cases r3 with
                | nx σ3 => exact fun τ4 e4 => ⟨μ4, s3, σ3, g1.trans g5, d4, e4, hv1, k1.m g5⟩
                | cnt σ3 => exact fun τ4 e4 => ⟨μ4, s3, σ3, g1.trans g5, d4, e4, hv1, k1.m g5⟩
                | brk σ3 =>
                  cases hv1
                  exact fun τ4 e4 => k1 μ4 H4 g5 d4 τ4 e4
                | ret d =>
                  cases hv1
                  exact fun v rv => k1 μ4 H4 g5 d4 v rv
end
end Iv

namespace Iv
open PySem L2 PySem.Spec
/-! ### a comprehension's own slots -/
def wipeD (σ : Sl) : List Nat → Sl
  | [] => σ
  | v :: vs => (wipeD σ vs).set v none
theorem wipeD_len (σ : Sl) : ∀ vs : List Nat, (wipeD σ vs).length = σ.length
  | [] => rfl
  | v :: vs => by unfold wipeD; rw [List.length_set, wipeD_len σ vs]
theorem wipe_get (τ : L2.St) : ∀ (vs : List Nat) (j : Nat), (wipe τ vs)[j]? = if j ∈ vs then (if j < τ.length then some none else none) else τ[j]?
  | [], j => by simp [wipe]
  | v :: vs, j => by
    unfold wipe
    by_cases hj : v = j
    · subst hj
      rw [List.getElem?_set]
      simp [wipe_length]
    · rw [List.getElem?_set_ne hj, wipe_get τ vs j]
      have e : (j ∈ v :: vs) = (j ∈ vs) := by simp [Ne.symm hj]
      simp only [e]
theorem wipe_set {τ : L2.St} {vs : List Nat} {i : Nat} {y : Option V} (h : i ∈ vs) : wipe (τ.set i y) vs = wipe τ vs := by
  apply List.ext_getElem?
  intro j
  rw [wipe_get, wipe_get, List.length_set]
  by_cases hj : j ∈ vs
  · simp [hj]
  · rw [if_neg hj, if_neg hj, List.getElem?_set_ne (by rintro rfl; exact hj h)]
theorem wipe_wipe {τ : L2.St} {vs : List Nat} : wipe (wipe τ vs) vs = wipe τ vs := by
  apply List.ext_getElem?
  intro j
  rw [wipe_get, wipe_get, wipe_length]
  by_cases hj : j ∈ vs
  · simp [hj]
  · rw [if_neg hj, if_neg hj]
section
variable {X : Cx} {K : PySem.W.Frag} {ww : World}
theorem envr_wipe {H : Hp} {μ : List Addr} {σ : Sl} {τ : L2.St} (er : EnvR K H μ σ τ) : ∀ vs : List Nat, EnvR K H μ (wipeD σ vs) (wipe τ vs)
  | [] => er
  | v :: vs => by
    have h := envr_wipe er vs
    unfold wipeD wipe
    refine ⟨by rw [List.length_set, List.length_set]; exact h.1, fun j d e => ?_⟩
    by_cases hj : v = j
    · subst hj
      by_cases hl : v < (wipeD σ vs).length
      · rw [List.getElem?_set_self hl] at e; cases e
      · rw [List.getElem?_eq_none (by rw [List.length_set]; omega)] at e; cases e
    · rw [List.getElem?_set_ne hj] at e ⊢
      exact h.2 j d e
/-- a target that stores into the block's own slots alone -/
def OwnG (vs : List Nat) (gg : TG) : Prop := ∀ x τ H (Q : L2.St → Hp → Prop), gg x τ H Q → gg x τ H fun τ2 H2 => wipe τ2 vs = wipe τ vs ∧ Q τ2 H2
def OwnGs (vs : List Nat) (gg : TGs) : Prop := ∀ xs τ H (Q : L2.St → Hp → Prop), gg xs τ H Q → gg xs τ H fun τ2 H2 => wipe τ2 vs = wipe τ vs ∧ Q τ2 H2
theorem own_name {vs : List Nat} {i : Nat} (h : i ∈ vs) : OwnG vs (gName i) := fun x τ H Q q => ⟨wipe_set h, q⟩
theorem own_nil {vs : List Nat} : OwnGs vs gNil := fun xs τ H Q q => ⟨q.1, rfl, q.2⟩
theorem own_cons {vs : List Nat} {i : Nat} {u : TGs} (h : i ∈ vs) (hu : OwnGs vs u) : OwnGs vs (gCons (gName i) u) := fun xs τ H Q ⟨v, r, e, q⟩ => ⟨v, r, e, by
  have q' := hu r _ _ _ q
  rw [wipe_set h] at q'
  exact q'⟩
theorem own_tup {vs : List Nat} {K : PySem.W.Frag} {n : Nat} {u : TGs} (hu : OwnGs vs u) : OwnG vs (gTup K n u) := fun x τ H Q ⟨a, xs, e, s, l, q⟩ => ⟨a, xs, e, s, l, hu xs _ _ _ q⟩
/-! ### comprehensions -/
def compV (J : It) (g : Tg) (c : ST) (e : SE) (n : Nat) (σ0 : Sl) : Nat → Nat → Sto → Option Sto
  | 0, _, _ => none
  | m + 1, i, st => match items J st with
    | none => none
    | some xs => match xs[i]? with
      | none => some st
      | some d => match g d σ0 with
        | none => none
        | some σ1 => bnd (c σ1 st) fun b s1 => if b = true then bnd (e σ1 s1) fun y s2 => (match getM s2 n with
            | none => none
            | some acc => if acc.length < LIM then compV J g c e n σ0 m (i + 1) (s2.set n (.lst (acc ++ [y]))) else none) else compV J g c e n σ0 m (i + 1) s1
def compF (vs : List Nat) (i : SJ) (g : Tg) (c : ST) (e : SE) : SE := fun σ st => bnd (i σ st) fun J s1 => match items J s1 with
  | none => none
  | some xs => (compV J g c e s1.length (wipeD σ vs) (xs.length + 1) 0 (s1 ++ [.lst []])).map fun s2 => (.loc s1.length, s2)
def yesT : ST := fun _ st => some (true, st)
theorem ts_nil : PTs X [] (rdT K ww yesT) := pts_nil.weak fun τ H Q ⟨μ, st, σ, b, st', gd, er, hv, k⟩ => by
  cases hv
  exact k μ H (Gr.refl H μ) gd
theorem ts_one {c : Expr} {t : ST} (h : PT X c (rdT K ww t)) : PTs X [c] (rdT K ww t) := pts_one h
theorem items_new {J : It} {st : Sto} {xs : List D} (h : items J st = some xs) (o : OB) : items J (st ++ [o]) = some xs := by
  have q : ∀ (n : Nat) (ys : List D), getL st n = some ys → getL (st ++ [o]) n = some ys := fun n ys h => by
    unfold getL at h ⊢
    cases e : st[n]? with
    | none => rw [e] at h; cases h
    | some p =>
      rw [List.getElem?_append_left (List.getElem?_eq_some_iff.mp e).1, e]
      rw [e] at h
      exact h
  cases J with
  | cns ys => exact h
  | lst n => exact q n xs h
  | enm n =>
    simp only [items] at h ⊢
    cases e : getL st n with
    | none => rw [e] at h; cases h
    | some ys => rw [q n ys e, ← e]; exact h
  | zip n m =>
    simp only [items] at h ⊢
    cases e : getL st n with
    | none => rw [e] at h; cases h
    | some ys =>
      cases e2 : getL st m with
      | none => rw [e, e2] at h; cases h
      | some zs => rw [q n ys e, q m zs e2]; rw [e, e2] at h; exact h
theorem rd_comp {vs : List Nat} {i : SJ} {gg : TG} {g : Tg} {c : ST} {e : SE} (ok : OkG K gg g) (ow : OwnG vs gg) : ∀ τ H Q, rdE K ww (compF vs i g c e) τ H Q → tLc (rdI K ww i) gg (rdT K ww c) (rdE K ww e) vs τ H Q :=
  fun τ H Q ⟨μ, st, σ, d, st', gd, er, hv, k⟩ => by
    obtain ⟨J, s1, h1, hv⟩ := bnd_eq hv
    cases ei : items J s1 with
    | none => simp only [ei] at hv; cases hv
    | some xs =>
      simp only [ei] at hv
      cases ec : compV J g c e s1.length (wipeD σ vs) (xs.length + 1) 0 (s1 ++ [.lst []]) with
      | none => rw [ec] at hv; cases hv
      | some s9 =>
        rw [ec] at hv
        cases hv
        refine ⟨μ, st, σ, J, s1, gd, er, h1, fun μ0 H0 J' g0 d0 iR Dp hD => ?_⟩
        have gn : Gr H0 μ0 (upd H0 Dp (.lst [])) (μ0 ++ [Dp]) := gr_new hD
        have dn := d0.new hD (reps_nil (K := K) (H := H0) (μ := μ0))
        have hDp : (μ0 ++ [Dp])[s1.length]? = some Dp := by
          rw [← d0.len, List.getElem?_append_right (Nat.le_refl _), Nat.sub_self]
          rfl
        have ew : EnvR K H0 μ0 (wipeD σ vs) (wipe τ vs) := envr_wipe (er.m g0) vs
        refine ⟨fun j m H1 => ∃ μ1 s2, Gr (upd H0 Dp (.lst [])) (μ0 ++ [Dp]) H1 μ1 ∧ Gd K ww H1 μ1 s2 ∧ compV J g c e s1.length (wipeD σ vs) m j s2 = some st', ⟨_, μ0 ++ [Dp], _, Gr.refl _ _, dn, ec⟩, ?_⟩
        rintro j m H1 ⟨μ1, s2, g1, d1, hv1⟩
        cases m with
        | zero => cases hv1
        | succ m =>
          unfold compV at hv1
          cases e2 : items J s2 with
          | none => simp only [e2] at hv1; cases hv1
          | some ys =>
            simp only [e2] at hv1
            have g01 := gn.trans g1
            obtain ⟨q1, q2⟩ := iR μ1 H1 s2 ys g01 d1 e2
            cases e3 : ys[j]? with
            | none =>
              simp only [e3] at hv1
              cases hv1
              exact .inl ⟨q1 j (by simpa using e3), k μ1 H1 _ (g0.trans g01) d1 (rep_loc (g1.get hDp))⟩
            | some y =>
              simp only [e3] at hv1
              obtain ⟨q3, q4⟩ := q2 j y e3
              refine .inr ⟨q3, fun H3 => ∃ μ3 s3, Gr (upd H0 Dp (.lst [])) (μ0 ++ [Dp]) H3 μ3 ∧ Gd K ww H3 μ3 s3 ∧ compV J g c e s1.length (wipeD σ vs) m (j + 1) s3 = some st', fun H3 q => ⟨m, Nat.lt_succ_self m, q⟩, fun x H2 hy => ?_⟩
              obtain ⟨sm, rx⟩ := q4 x H2 hy
              have gs : Gr H1 μ1 H2 μ1 := ⟨Keeps.same sm, [], by simp⟩
              have d2 := d1.same sm
              cases e4 : g y (wipeD σ vs) with
              | none => simp only [e4] at hv1; cases hv1
              | some σ2 =>
                simp only [e4] at hv1
                obtain ⟨b, s3, h3, hv1⟩ := bnd_eq hv1
                have hq : gg x (wipe τ vs) H2 fun τ2 H2 => rdT K ww c τ2 H2 fun b H3 => if b = true then rdE K ww e τ2 H3 fun y H4 => ∃ acc, H4 Dp = some (.lst acc) ∧ acc.length < sizeLine ∧ (fun H3 => ∃ μ3 s3, Gr (upd H0 Dp (.lst [])) (μ0 ++ [Dp]) H3 μ3 ∧ Gd K ww H3 μ3 s3 ∧ compV J g c e s1.length (wipeD σ vs) m (j + 1) s3 = some st') (upd H4 Dp (.lst (acc ++ [y]))) else (fun H3 => ∃ μ3 s3, Gr (upd H0 Dp (.lst [])) (μ0 ++ [Dp]) H3 μ3 ∧ Gd K ww H3 μ3 s3 ∧ compV J g c e s1.length (wipeD σ vs) m (j + 1) s3 = some st') H3 := by
                  refine ok H2 μ1 _ _ y x σ2 _ (ew.m (g01.trans gs)) rx e4 fun τ2 e5 => ?_
                  refine ⟨μ1, s2, σ2, b, s3, d2, e5, h3, fun μ4 H4 g4 d4 => ?_⟩
                  have g5 := (g1.trans gs).trans g4
                  cases b with
                  | false => exact ⟨μ4, s3, g5, d4, hv1⟩
                  | true =>
                    rw [if_pos rfl] at hv1
                    show rdE K ww e τ2 H4 _
                    obtain ⟨z, s4, h4, hv1⟩ := bnd_eq hv1
                    refine ⟨μ4, s3, σ2, z, s4, d4, e5.m g4, h4, fun μ5 H5 w g6 d5 r5 => ?_⟩
                    cases e6 : getM s4 s1.length with
                    | none => simp only [e6] at hv1; cases hv1
                    | some acc =>
                      simp only [e6] at hv1
                      split at hv1
                      · rename_i hl
                        have hp5 := (g5.trans g6).get hDp
                        obtain ⟨us, hH, rs⟩ := d5.getM hp5 e6
                        have gw : Gr H5 μ5 (upd H5 Dp (.lst (us ++ [w]))) μ5 := gr_write hH
                        exact ⟨us, hH, lim_lt (by rw [← rs.len]; exact hl), μ5, _, (g5.trans g6).trans gw, d5.write hp5 (getM_get e6) hH (rs.app (reps_cons r5 reps_nil)), hv1⟩
                      · cases hv1
                have hq2 := ow x _ _ _ hq
                rw [wipe_wipe] at hq2
                exact hq2
theorem se_comp {elt tg iter : Expr} {ifs : List Expr} {scope : Scope} {own : List (Str × Nat)} {pos : Pos} {i : SJ} {gg : TG} {g : Tg} {c : ST} {e : SE} (hc : X.calm = true) (hN : X.N.Nodup) (hi : PI X tg iter (rdI X.K X.w i)) (ok : BlkOk X.N X.env.scope scope own)
    (hg : ∀ (s : Shared) (H : Hp) (C : Addr) (cl : List (Str × Addr)) (fp : List Addr), PG (X.blk s H scope (compEnvC scope cl C X.env) fp) tg gg) (okg : OkG X.K gg g) (ow : OwnG (own.map (·.2)) gg)
    (ht : ∀ (s : Shared) (H : Hp) (C : Addr) (cl : List (Str × Addr)) (fp : List Addr), PTs (X.blk s H scope (compEnvC scope cl C X.env) fp) ifs (rdT X.K X.w c))
    (he : ∀ (s : Shared) (H : Hp) (C : Addr) (cl : List (Str × Addr)) (fp : List Addr), PE (X.blk s H scope (compEnvC scope cl C X.env) fp) elt (rdE X.K X.w e)) (hs : ∀ x, foldedSetIterable iter X.env x = pure x := by intro _; rfl) :
    PE X (.ListComp elt [⟨tg, iter, ifs, 0⟩] scope pos) (rdE X.K X.w (compF (own.map (·.2)) i g c e)) := (pe_lc hc hN hi ok hg ht he hs).weak (rd_comp okg ow)

/-! ### own functions -/
abbrev Fx := List D → Sto → Option (D × Sto)
def callF (φ : Fx) (f : SA) : SE := fun σ st => bnd (f σ st) fun ds s1 => φ ds s1
def spF (K : PySem.W.Frag) (ww : World) (np : Nat) (φ : Fx) : Sp := fun vs H Q E => vs.length = np ∧ ∃ μ st ds d st', Gd K ww H μ st ∧ Reps K H μ ds vs ∧ φ ds st = some (d, st') ∧ ∀ μ' H' v, Gr H μ H' μ' → Gd K ww H' μ' st' → Rep K H' μ' d v → Q v H'
def runF (ns np : Nat) (body : SS) : Fx := fun ds st => if ds.length = np then (match body (ds.map some ++ List.replicate (ns - np) none) st with
  | some (.nx _, s) => some (.non, s)
  | some (.ret d, s) => some (d, s)
  | _ => none) else none
theorem envr_start {H : Hp} {μ : List Addr} {ds : List D} {vs : List V} (r : Reps K H μ ds vs) (k : Nat) : EnvR K H μ (ds.map some ++ List.replicate k none) (vs.map some ++ List.replicate k none) := by
  have hl := r.len
  refine ⟨by simp [hl], fun i d e => ?_⟩
  by_cases hi : i < ds.length
  · rw [List.getElem?_append_left (by simpa using hi), List.getElem?_map] at e
    rw [List.getElem?_append_left (by rw [List.length_map, ← hl]; exact hi), List.getElem?_map]
    cases e1 : ds[i]? with
    | none => rw [e1] at e; cases e
    | some x =>
      rw [e1] at e
      cases e
      obtain ⟨v, h1, h2⟩ := r.get e1
      exact ⟨v, by rw [h1]; rfl, h2⟩
  · rw [List.getElem?_append_right (by simpa using hi)] at e
    have := List.mem_of_getElem? e
    rw [List.mem_replicate] at this
    cases this.2
section
variable {P : Program} {w : World} {mg : Str → Option Value} {base : Heap} {n k : Nat} {f : Addr} {fd : FuncData} {ps : List Str}
theorem se_call {x : Str} {p pos : Pos} {e : Expr} {es : List Expr} {φ : Fx} {np : Nat} {g : SA} (G : FnOk X.prog X.w X.K X.mg X.base CX0 n f fd ps (spF X.K X.w np φ)) (hr : Room n X.A) (hg : Gl X x) (hm : X.mg x = some (.ref f)) (hk : PySem.W.keepIn X.K (.ref f) = true) (hb : Binds X.K fd ps [])
    (ha : PA X (e :: es) (rdA X.K X.w g)) (hnp : ∀ ds st d st', φ ds st = some (d, st') → ds.length = np) (hdb : (x == ("__debug__" : Str)) = false := by decide) (he : starEach (e :: es) X.env = (false, eval e X.env) :: starEach es X.env := by rfl) (hpl : (backTo pos (starEach es X.env)).any (·.1) = false := by rfl) :
    PE X (.Call (.Name x p) (e :: es) [] pos) (rdE X.K X.w (callF φ g)) := (pe_call G hr hg hm hk hb .nil pass0 ha hdb he hpl).weak fun τ H Q ⟨μ, st, σ, d, st', gd, er, hv, kk⟩ => by
  obtain ⟨ds, s1, h1, hv⟩ := bnd_eq hv
  refine ⟨μ, st, σ, ds, s1, gd, er, h1, fun μ1 H1 vs g1 d1 r1 => ?_⟩
  show spF X.K X.w np φ (vs ++ []) H1 Q E0
  rw [List.append_nil]
  exact ⟨by rw [← r1.len]; exact hnp _ _ _ _ hv, μ1, s1, ds, d, st', d1, r1, hv, fun μ2 H2 v g2 d2 r2 => kk μ2 H2 v (g1.trans g2) d2 r2⟩
theorem runF_np {ns np : Nat} {body : SS} : ∀ ds st d st', runF ns np body ds st = some (d, st') → ds.length = np := fun ds st d st' h => by
  unfold runF at h
  split at h
  · assumption
  · cases h
theorem fn_zero {φ : Fx} {np : Nat} (h : ∀ ds st, φ ds st = none) : FnOk P w K mg base CX0 0 f fd ps (spF K w np φ) := by
  have no : ∀ vs H Q E, ¬ spF K w np φ vs H Q E := fun vs H Q E ⟨_, _, st, ds, _, _, _, _, e, _⟩ => by rw [h] at e; cases e
  exact ⟨fun vs H Q E h => absurd h (no vs H Q E), fun A outer s H args us vs Q E _ _ _ _ h => absurd h (no vs H Q E)⟩
theorem fn_ok {x qual : Str} {st : Stmt} {N : List Str} {body : SS} (F : Fun K x qual st f fd) (S : FnScope N ps (defScope st)) (hns : ps.length ≤ N.length)
    (hb : ∀ (cdv : Value) (A : Around) (outer : List Env) (s : Shared) (H : Hp) (E : XK), Room k (A.deeper (PyProof.Rows.envOfC qual (defScope st) s.heap.objs.size f cdv)) →
      PSs (cxOf CX0 P w K mg base N qual (defScope st) f cdv A outer s H E).nox (defBody st) (rdS K w body)) :
    FnOk P w K mg base CX0 (k + 1) f fd ps (spF K w ps.length (runF N.length ps.length body)) := by
  refine F.ok S (fun vs H Q E h => h.1) (fun cdv A outer s H vs Q E hr h => ⟨_, hb cdv A outer s H E hr, ?_⟩)
  obtain ⟨hlen, μ, st, ds, d, st', gd, r, hv, q⟩ := h
  unfold runF at hv
  split at hv
  · rename_i hl
    unfold L2.start
    rw [hlen]
    have er := envr_start r (N.length - ps.length)
    cases e : body (ds.map some ++ List.replicate (N.length - ps.length) none) st with
    | none => rw [e] at hv; cases hv
    | some p =>
      obtain ⟨r1, s1⟩ := p
      rw [e] at hv
      refine ⟨μ, st, _, r1, s1, gd, er, e, fun μ1 H1 g1 d1 => ?_⟩
      cases r1 with
      | nx σ1 =>
        cases hv
        exact fun τ1 _ => q μ1 H1 .non g1 d1 (by simp only [Rep])
      | ret x =>
        cases hv
        exact fun v rv => q μ1 H1 v g1 d1 rv
      | brk σ1 => cases hv
      | cnt σ1 => cases hv
  · cases hv
end
/-! ### the law's own end -/
def spLaw (K : PySem.W.Frag) : Sp := fun vs H Q _ => ∃ (a : Addr) (ns : List Int), vs = [.ref a] ∧ (∀ H', Keeps H H' → SqL K H' a (ns.map V.int)) ∧ ns.length ≤ 63 ∧ ∀ H', Q (.bl true) H'
theorem reps_ints {H : Hp} {μ : List Addr} : ∀ ns : List Int, Reps K H μ (ns.map D.int) (ns.map V.int)
  | [] => reps_nil
  | n :: ns => reps_cons (by simp only [Rep]) (reps_ints ns)
theorem law_ok {P : Program} {w : World} {mg : Str → Option Value} {base : Heap} {n : Nat} {f : Addr} {fd : FuncData} {φ : Fx} (G : FnOk P w K mg base CX0 n f fd ["script"] (spF K w 1 φ))
    (h : ∀ ns : List Int, ns.length ≤ 63 → ∃ st', φ [.loc 0] [.frz (ns.map .int)] = some (.bl true, st')) : FnOk P w K mg base CX0 n f fd ["script"] (spLaw K) := by
  refine G.imp (fun vs H Q E q => ?_)
  obtain ⟨a, ns, rfl, hS, hl, q⟩ := q
  obtain ⟨st', e⟩ := h ns hl
  refine ⟨rfl, [a], [.frz (ns.map .int)], [.loc 0], _, st', ⟨rfl, fun n m p xs ys h1 h2 h3 h4 k1 k2 => ?_, fun n p o h1 h2 => ?_⟩, reps_cons (rep_loc rfl) reps_nil, e, fun μ' H' v g d r => ?_⟩
  · cases n with
    | zero => cases h3; cases k1
    | succ n => simp at h3
  · cases n with
    | zero =>
      cases h1
      cases h2
      exact ⟨_, hS, reps_ints ns⟩
    | succ n => simp at h1
  · simp only [Rep] at r
    subst r
    exact q H'
theorem only_sql {H : Hp} {a : Addr} {xs : List V} (h : Only H) (s : SqL K H a xs) : ∀ H', Keeps H H' → SqL K H' a xs := fun H' k => by
  rcases s with (s | ⟨o, s⟩) | s
  · rcases h a with z | ⟨o, ys, z⟩
    · rw [s] at z; cases z
    · rw [s] at z; cases z
  · exact .inl (.inr ⟨o, k.2.1 _ _ _ s⟩)
  · exact .inr s
end
end Iv

namespace Iv
open PySem L2
/-! ### the operations -/
def addO : Op2
  | .int i, .int j, st => some (.int (i + j), st)
  | .str a, .str b, st => if a.length + b.length ≤ LIM then some (.str (a ++ b), st) else none
  | .loc n, .loc m, st => match getM st n, getM st m with
    | some xs, some ys => if xs.length + ys.length ≤ LIM then some (.loc st.length, st ++ [.lst (xs ++ ys)]) else none
    | _, _ => none
  | .tup xs, .tup ys, st => if xs.length + ys.length ≤ LIM ∧ nst (xs ++ ys) = false then some (.tup (xs ++ ys), st) else none
  | _, _, _ => none
def intO (C : Int → Int → Bool) (g : Int → Int → Int) : Op2
  | .int i, .int j, st => if C i j = true then some (.int (g i j), st) else none
  | _, _, _ => none
def cT (_ _ : Int) : Bool := true
def cMul (i j : Int) : Bool := (decide (-(2 ^ 64) < i) && decide (i < 2 ^ 64)) || (decide (-(2 ^ 64) < j) && decide (j < 2 ^ 64))
def cDiv (_ j : Int) : Bool := decide (0 < j) && decide (j < 1073741824)
def cPos (_ j : Int) : Bool := decide (0 < j)
def cPow (i j : Int) : Bool := decide (0 ≤ j) && decide (j ≤ 1000000) && decide (i.natAbs < 2 ^ 64)
def subO : Op2 := intO cT fun i j => i - j
def mulO : Op2 := intO cMul fun i j => i * j
def fdivO : Op2 := intO cDiv fun i j => i / j
def modO : Op2 := intO cPos fun i j => i % j
def powO : Op2 := intO cPow fun i j => i ^ j.toNat
def relO (p : Int → Int → Bool) : Op2
  | .int i, .int j, st => some (.bl (p i j), st)
  | _, _, _ => none
def ltO : Op2 := relO fun i j => decide (i < j)
def leO : Op2 := relO fun i j => decide (i ≤ j)
def gtO : Op2 := relO fun i j => decide (j < i)
def geO : Op2 := relO fun i j => decide (j ≤ i)
/-! equality at any depth -/
mutual
def py (st : Sto) : Nat → D → Option PyData
  | _, .non => some .none
  | _, .bl b => some (.bool b)
  | _, .int i => some (.int i)
  | _, .str x => some (.str x)
  | n, .tup xs => (pys st n xs).map .tuple
  | 0, .loc _ => none
  | n + 1, .loc k => match getL st k with
    | none => none
    | some xs => (pys st n xs).map .list
  termination_by n d => (n, sizeOf d)
def pys (st : Sto) : Nat → List D → Option (List PyData)
  | _, [] => some []
  | n, d :: ds => match py st n d, pys st n ds with
    | some p, some ps => some (p :: ps)
    | _, _ => none
  termination_by n d => (n, sizeOf d)
end
def scalD : D → Bool
  | .non => true | .bl _ => true | .int _ => true | .str _ => true | _ => false
def eqS : D → D → Option Bool
  | .non, .non => some true
  | .non, .int _ => some false
  | .int _, .non => some false
  | .non, .bl _ => some false
  | .bl _, .non => some false
  | .non, .str _ => some false
  | .str _, .non => some false
  | .int i, .int j => some (decide (i = j))
  | .bl i, .bl j => some (decide (i = j))
  | .str i, .str j => some (decide (i = j))
  | .int _, .str _ => some false
  | .str _, .int _ => some false
  | .bl _, .str _ => some false
  | .str _, .bl _ => some false
  | _, _ => none
def eqO (neg : Bool) : Op2 := fun x y st => match eqS x y with
  | some b => some (.bl (b != neg), st)
  | none => match py st 60 x, py st 60 y with
    | some p, some q => if SeqAt.shaped p = true ∧ SeqAt.shaped q = true then some (.bl (PyData.eqv p q != neg), st) else none
    | _, _ => none
def isNO (neg : Bool) : Op2 := fun x y st => match y with
  | .non => match x with
    | .non => some (.bl (true != neg), st)
    | _ => some (.bl (false != neg), st)
  | _ => none
def eqF : D → D → Bool
  | .non, .non => true
  | .bl a, .bl b => a == b
  | .bl a, .int b => (if a then 1 else 0) == b
  | .int a, .bl b => a == (if b then 1 else 0)
  | .int a, .int b => a == b
  | .str a, .str b => a == b
  | _, _ => false
def inF (x : D) (xs : List D) : Bool := xs.any fun y => eqF y x
def inO (neg : Bool) : Op2 := fun x y st => match y with
  | .str b => match x with
    | .str a => some (.bl ((!(Builtin.Str.occurrences b a 0 b.length 1).isEmpty) != neg), st)
    | _ => none
  | .tup ys => if scalD x = true ∧ ys.all scalD = true then some (.bl (inF x ys != neg), st) else none
  | .loc n => match getL st n with
    | none => none
    | some ys => if scalD x = true ∧ ys.all scalD = true then some (.bl (inF x ys != neg), st) else
      match py st 60 x, py st 60 y with
      | some p, some (.list qs) => if SeqAt.shaped p = true ∧ SeqAt.shaped (.list qs) = true then some (.bl ((qs.any fun z => PyData.eqv z p) != neg), st) else none
      | _, _ => none
  | _ => none
def ixO : Op2
  | .loc n, .int i, st => match getL st n with
    | none => none
    | some xs => (atI xs i).map fun d => (d, st)
  | .tup xs, .int i, st => (atI xs i).map fun d => (d, st)
  | .str x, .int i, st => if x.length ≤ LIM then (atI x.cps.toList i).map fun c => (.str ⟨#[c]⟩, st) else none
  | _, _, _ => none
def negO : Op1
  | .int i, st => some (.int (-i), st)
  | _, _ => none
def lenO : OpN
  | [.str x], st => if x.length ≤ LIM then some (.int x.length, st) else none
  | [.tup xs], st => some (.int xs.length, st)
  | [.loc n], st => (getL st n).map fun xs => (.int xs.length, st)
  | _, _ => none
def intOf : OpN
  | [.int i], st => some (.int i, st)
  | [.bl b], st => some (.int (if b then 1 else 0), st)
  | [.str a], st => match PySem.intText? a with
    | some n => if a.length ≤ 640 then some (.int n, st) else none
    | none => none
  | _, _ => none
def absO : OpN
  | [.int i], st => some (.int (if i < 0 then -i else i), st)
  | _, _ => none
def strOf : OpN
  | [.int i], st => if i.natAbs.log2 < 1920 then some (.str (toString i), st) else none
  | [.str x], st => some (.str x, st)
  | _, _ => none
def max2O : OpN
  | [.int i, .int j], st => some (.int (if j > i then j else i), st)
  | _, _ => none
def min2O : OpN
  | [.int i, .int j], st => some (.int (if j < i then j else i), st)
  | _, _ => none
def tupleO : OpN
  | [.loc n], st => (getL st n).map fun xs => (.tup xs, st)
  | [.tup xs], st => some (.tup xs, st)
  | _, _ => none
def listO : OpN
  | [.loc n], st => (getL st n).map fun xs => (.loc st.length, st ++ [.lst xs])
  | [.tup xs], st => some (.loc st.length, st ++ [.lst xs])
  | _, _ => none
def blsD : List D → Option (List Bool)
  | [] => some []
  | .bl b :: ds => (blsD ds).map fun bs => b :: bs
  | _ :: _ => none
def anyO (all : Bool) : OpN
  | [.loc n], st => match getL st n with
    | none => none
    | some xs => (blsD xs).map fun bs => (.bl (if all then bs.all id else bs.any id), st)
  | _, _ => none
def isi (T : String) : D → Bool
  | .non => false
  | .bl _ => T == "bool" || T == "int"
  | .int _ => T == "int"
  | .str _ => T == "str"
  | .tup _ => T == "tuple"
  | .loc _ => T == "list"
def isiO (T : String) : Op1 := fun x st => match x with
  | .loc n => (getL st n).map fun _ => (.bl (isi T x), st)
  | _ => some (.bl (isi T x), st)
def appendO : OpM := fun x ys st => match x, ys with
  | .loc n, [y] => match getM st n with
    | none => none
    | some xs => if xs.length < LIM then some (.non, st.set n (.lst (xs ++ [y]))) else none
  | _, _ => none
def extendO : OpM := fun x ys st => match x, ys with
  | .loc n, [.loc m] => if n = m then none else match getM st n, getM st m with
    | some xs, some zs => if xs.length + zs.length ≤ LIM then some (.non, st.set n (.lst (xs ++ zs))) else none
    | _, _ => none
  | _, _ => none
def strsD : List D → Option (List Str)
  | [] => some []
  | .str b :: ds => (strsD ds).map fun bs => b :: bs
  | _ :: _ => none
def joinO : OpM := fun x ys st => match x, ys with
  | .str a, [.loc n] => match getL st n with
    | none => none
    | some xs => match strsD xs with
      | none => none
      | some zs => if (zs.map (·.length)).sum + zs.length * a.length ≤ LIM then some (.str (Txt.join a zs), st) else none
  | _, _ => none
def splitO : OpM := fun x ys st => match x, ys with
  | .str a, [.str b] => if (b.length == 0) = false ∧ a.length + 2 ≤ LIM then some (.loc st.length, st ++ [.lst ((Txt.split a b).map .str)]) else none
  | _, _ => none
def wordsO : OpM := fun x ys st => match x, ys with
  | .str a, [] => if a.length + 2 ≤ LIM then some (.loc st.length, st ++ [.lst ((Txt.words a).map .str)]) else none
  | _, _ => none
def cutD (xs : List D) (lo hi : Option Int) : List D := (xs.drop (HT.sIx xs.length 0 lo)).take (HT.sIx xs.length xs.length hi - HT.sIx xs.length 0 lo)
def cutO : OpS := fun x lo hi st => match x with
  | .loc n => (getL st n).map fun xs => (.loc st.length, st ++ [.lst (cutD xs lo hi)])
  | .tup xs => if nst (cutD xs lo hi) = true then none else some (.tup (cutD xs lo hi), st)
  | .str x => if x.length ≤ LIM then some (.str (cutS x lo hi), st) else none
  | _ => none

/-! ### they are the machine's -/
theorem limc {n : Nat} (h : n ≤ LIM) : n ≤ 16777216 := Nat.le_trans h (by decide)
section
variable {X : Cx}
abbrev RT (K : PySem.W.Frag) (ww : World) (H : Hp) (μ : List Addr) (st : Sto) (d : D) (st' : Sto) (Q : VK) : Prop := ∀ μ' H' v, Gr H μ H' μ' → Gd K ww H' μ' st' → Rep K H' μ' d v → Q v H'
/-- nothing new: the value and the same heap -/
theorem here {K : PySem.W.Frag} {ww : World} {H : Hp} {μ : List Addr} {st : Sto} {d : D} {Q : VK} {v : V} (k : ∀ μ' H' v, Gr H μ H' μ' → Gd K ww H' μ' st → Rep K H' μ' d v → Q v H') (g : Gd K ww H μ st) (r : Rep K H μ d v) : Q v H := k μ H v (Gr.refl H μ) g r
theorem ok_addI {K : PySem.W.Frag} {ww : World} : Ok2 K ww (fun x y H Q => (rI0 fun i j => V.int (i + j)) x y H Q ∨ (fun x y H Q => ∃ i j, x = V.str i ∧ y = .str j ∧ i.length + j.length ≤ sizeLine ∧ Q (.str (i ++ j)) H) x y H Q ∨ rCat x y H Q ∨ rCatA K x y H Q) addO := by
  intro H μ st x y vx vy d st' Q g rx ry hv k
  cases x with
  | int i =>
    cases y with
    | int j =>
      simp only [Rep] at rx ry
      subst rx ry
      cases hv
      exact .inl ⟨i, j, rfl, rfl, here k g (by simp only [Rep])⟩
    | _ => cases hv
  | str a =>
    cases y with
    | str b =>
      simp only [Rep] at rx ry
      subst rx ry
      simp only [addO] at hv
      split at hv
      · rename_i hl
        cases hv
        exact .inr (.inl ⟨a, b, rfl, rfl, lim_ok hl, here k g (by simp only [Rep])⟩)
      · cases hv
    | _ => cases hv
  | loc n =>
    cases y with
    | loc m =>
      simp only [Rep] at rx ry
      obtain ⟨p, rfl, hp⟩ := rx
      obtain ⟨q, rfl, hq⟩ := ry
      simp only [addO] at hv
      split at hv
      · rename_i xs ys e1 e2
        split at hv
        · rename_i hl
          cases hv
          obtain ⟨vs, h1, r1⟩ := g.getM hp e1
          obtain ⟨ws, h2, r2⟩ := g.getM hq e2
          exact .inr (.inr (.inl ⟨p, q, vs, ws, rfl, rfl, h1, h2, lim_ok (by rw [← r1.len, ← r2.len]; exact hl), new_lst g (r1.app r2) k⟩))
        · cases hv
      · cases hv
    | _ => cases hv
  | tup xs =>
    cases y with
    | tup ys =>
      simp only [addO] at hv
      split at hv
      · rename_i hl
        cases hv
        have rx' := rx
        have ry' := ry
        simp only [Rep] at rx ry
        obtain ⟨p, vs, rfl, ⟨h1, _⟩, r1⟩ := rx
        obtain ⟨q, ws, rfl, ⟨h2, _⟩, r2⟩ := ry
        have ev : vs = [] ↔ xs = [] := by rw [← List.length_eq_zero_iff, ← r1.len, List.length_eq_zero_iff]
        have ew : ws = [] ↔ ys = [] := by rw [← List.length_eq_zero_iff, ← r2.len, List.length_eq_zero_iff]
        refine .inr (.inr (.inr ⟨p, q, vs, ws, rfl, rfl, h1, h2, lim_ok (by rw [← r1.len, ← r2.len]; exact hl.1), fun e => ?_, fun _ e => ?_, fun _ _ => new_tupP g hl.2 (r1.app r2) k⟩))
        · rw [ev.mp e] at k
          exact here k g (by simpa using ry')
        · rw [ew.mp e, List.append_nil] at k
          exact here k g rx'
      · cases hv
    | _ => cases hv
  | non => cases hv
  | bl _ => cases hv
theorem op_addA : OpR X (binaryOp .Add) (fun x y H Q => (rI0 fun i j => V.int (i + j)) x y H Q ∨ (fun x y H Q => ∃ i j, x = V.str i ∧ y = .str j ∧ i.length + j.length ≤ sizeLine ∧ Q (.str (i ++ j)) H) x y H Q ∨ rCat x y H Q ∨ rCatA X.K x y H Q) := op_add.or (op_add_str.or (op_cat.or op_catA))
theorem ok_int {K : PySem.W.Frag} {ww : World} {C : Int → Int → Prop} {c : Int → Int → Bool} {g : Int → Int → Int} (hc : ∀ i j, c i j = true → C i j) : Ok2 K ww (rI C fun i j => .int (g i j)) (intO c g) := by
  intro H μ st x y vx vy d st' Q gd rx ry hv k
  cases x with
  | int i =>
    cases y with
    | int j =>
      simp only [Rep] at rx ry
      subst rx ry
      simp only [intO] at hv
      split at hv
      · rename_i h
        cases hv
        exact ⟨i, j, rfl, rfl, hc i j h, here k gd (by simp only [Rep])⟩
      · cases hv
    | _ => cases hv
  | _ => cases hv
theorem ok_int0 {K : PySem.W.Frag} {ww : World} {g : Int → Int → Int} : Ok2 K ww (rI0 fun i j => .int (g i j)) (intO cT g) := by
  intro H μ st x y vx vy d st' Q gd rx ry hv k
  obtain ⟨i, j, h1, h2, _, q⟩ := ok_int (K := K) (C := fun _ _ => True) (c := cT) (g := g) (fun _ _ _ => True.intro) H μ st x y vx vy d st' Q gd rx ry hv k
  exact ⟨i, j, h1, h2, q⟩
theorem ok_rel {K : PySem.W.Frag} {ww : World} {p : Int → Int → Bool} : Ok2 K ww (rI0 fun i j => .bl (p i j)) (relO p) := by
  intro H μ st x y vx vy d st' Q gd rx ry hv k
  cases x with
  | int i =>
    cases y with
    | int j =>
      simp only [Rep] at rx ry
      subst rx ry
      cases hv
      exact ⟨i, j, rfl, rfl, here k gd (by simp only [Rep])⟩
    | _ => cases hv
  | _ => cases hv
section
variable {a b : Expr} {f g : SE} {pos : Pos}
theorem e_add (ha : PE X a (rdE X.K X.w f)) (hb : PE X b (rdE X.K X.w g)) : PE X (.BinOp a .Add b pos) (rdE X.K X.w (binF addO f g)) := se_bin op_addA ok_addI ha hb
theorem e_sub (ha : PE X a (rdE X.K X.w f)) (hb : PE X b (rdE X.K X.w g)) : PE X (.BinOp a .Sub b pos) (rdE X.K X.w (binF subO f g)) := se_bin op_sub ok_int0 ha hb
theorem e_mul (ha : PE X a (rdE X.K X.w f)) (hb : PE X b (rdE X.K X.w g)) : PE X (.BinOp a .Mult b pos) (rdE X.K X.w (binF mulO f g)) := se_bin op_mul (ok_int fun i j h => by
  simp only [cMul, Bool.or_eq_true, Bool.and_eq_true, decide_eq_true_eq] at h
  exact h) ha hb
theorem e_fdiv (ha : PE X a (rdE X.K X.w f)) (hb : PE X b (rdE X.K X.w g)) : PE X (.BinOp a .FloorDiv b pos) (rdE X.K X.w (binF fdivO f g)) := se_bin op_fdiv (ok_int fun i j h => by
  simp only [cDiv, Bool.and_eq_true, decide_eq_true_eq] at h
  exact h) ha hb
theorem e_mod (ha : PE X a (rdE X.K X.w f)) (hb : PE X b (rdE X.K X.w g)) : PE X (.BinOp a .Mod b pos) (rdE X.K X.w (binF modO f g)) := se_bin op_mod (ok_int fun i j h => by
  simp only [cPos, decide_eq_true_eq] at h
  exact h) ha hb
theorem e_pow (ha : PE X a (rdE X.K X.w f)) (hb : PE X b (rdE X.K X.w g)) : PE X (.BinOp a .Pow b pos) (rdE X.K X.w (binF powO f g)) := se_bin op_pow (ok_int fun i j h => by
  simp only [cPow, Bool.and_eq_true, decide_eq_true_eq] at h
  exact ⟨h.1.1, h.1.2, h.2⟩) ha hb
theorem e_neg (ha : PE X a (rdE X.K X.w f)) : PE X (.UnaryOp .USub a pos) (rdE X.K X.w (unF negO f)) := se_un un_neg (by
  intro H μ st x vx d st' Q gd rx hv k
  cases x with
  | int i =>
    simp only [Rep] at rx
    subst rx
    cases hv
    exact ⟨i, rfl, here k gd (by simp only [Rep])⟩
  | _ => cases hv) ha
end
/-! comparisons: the rule, that it fits, that a bool comes back -/
structure Cmp (X : Cx) (op : CmpOp) (o : Op2) : Prop where
  ex : ∃ r, OpR X (compareOp op) r ∧ Ok2 X.K X.w r o
  bl : ∀ x y st d st', o x y st = some (d, st') → ∃ b, d = .bl b
theorem rel_bl {p : Int → Int → Bool} : ∀ x y st d st', relO p x y st = some (d, st') → ∃ b, d = .bl b := fun x y st d st' h => by
  unfold relO at h
  split at h
  · cases h; exact ⟨_, rfl⟩
  · cases h
theorem cm_lt : Cmp X .Lt ltO := ⟨⟨_, op_lt, ok_rel⟩, rel_bl⟩
theorem cm_le : Cmp X .LtE leO := ⟨⟨_, op_le, ok_rel⟩, rel_bl⟩
theorem cm_gt : Cmp X .Gt gtO := ⟨⟨_, op_gt, ok_rel⟩, rel_bl⟩
theorem cm_ge : Cmp X .GtE geO := ⟨⟨_, op_ge, ok_rel⟩, rel_bl⟩
mutual
theorem py_dp {K : PySem.W.Frag} {ww : World} {H : Hp} {μ : List Addr} {st : Sto} (g : Gd K ww H μ st) : ∀ (n : Nat) (d : D) (v : V) (p : PyData), py st n d = some p → Rep K H μ d v → Dp K H v p
  | n, .non, v, p, h, r => by simp only [py] at h; simp only [Rep] at r; cases h; subst r; exact .non
  | n, .bl b, v, p, h, r => by simp only [py] at h; simp only [Rep] at r; cases h; subst r; exact .bl b
  | n, .int b, v, p, h, r => by simp only [py] at h; simp only [Rep] at r; cases h; subst r; exact .int b
  | n, .str b, v, p, h, r => by simp only [py] at h; simp only [Rep] at r; cases h; subst r; exact .str b
  | n, .tup xs, v, p, h, r => by
    simp only [py] at h
    simp only [Rep] at r
    obtain ⟨a, vs, rfl, s, rs⟩ := r
    cases e : pys st n xs with
    | none => rw [e] at h; cases h
    | some ps =>
      rw [e] at h
      cases h
      exact .tup s.1 (pys_dp g n xs vs ps e rs)
  | 0, .loc k, v, p, h, r => by simp only [py] at h; cases h
  | n + 1, .loc k, v, p, h, r => by
    simp only [py] at h
    simp only [Rep] at r
    obtain ⟨a, rfl, ha⟩ := r
    split at h
    · cases h
    · rename_i xs e1
      obtain ⟨vs, s, rs⟩ := g.getL ha e1
      cases e : pys st n xs with
      | none => rw [e] at h; cases h
      | some ps =>
        rw [e] at h
        cases h
        exact .lst s (pys_dp g n xs vs ps e rs)
  termination_by n d => (n, sizeOf d)
theorem pys_dp {K : PySem.W.Frag} {ww : World} {H : Hp} {μ : List Addr} {st : Sto} (g : Gd K ww H μ st) : ∀ (n : Nat) (ds : List D) (vs : List V) (ps : List PyData), pys st n ds = some ps → Reps K H μ ds vs → DpAll K H vs ps
  | n, [], vs, ps, h, r => by simp only [pys] at h; simp only [Reps] at r; cases h; subst r; exact .nil
  | n, d :: ds, vs, ps, h, r => by
    simp only [pys] at h
    simp only [Reps] at r
    obtain ⟨v, ws, rfl, r1, r2⟩ := r
    split at h
    · rename_i p qs e1 e2
      cases h
      exact .cons (py_dp g n d v p e1 r1) (pys_dp g n ds ws qs e2 r2)
    · cases h
  termination_by n d => (n, sizeOf d)
end
theorem eqS_ok {K : PySem.W.Frag} {H : Hp} {μ : List Addr} {x y : D} {vx vy : V} {b : Bool} (rx : Rep K H μ x vx) (ry : Rep K H μ y vy) (h : eqS x y = some b) : scal vx vy = true ∧ decide (vx = vy) = b := by
  cases x <;> cases y <;> first
    | (exfalso; cases h; done)
    | (simp only [Rep] at rx ry; subst rx ry; cases h; exact ⟨rfl, by simp⟩)
theorem cm_eq (hu : X.A.units + 64 < cLine) : Cmp X .Eq (eqO false) := ⟨⟨_, op_eq.or (op_eqD hu), by
  intro H μ st x y vx vy d st' Q g rx ry hv k
  unfold eqO at hv
  split at hv
  · rename_i b e
    cases hv
    obtain ⟨h1, h2⟩ := eqS_ok rx ry e
    refine .inl ⟨h1, ?_⟩
    rw [h2]
    exact here k g (by simp [Rep])
  · split at hv
    · rename_i p q e1 e2
      split at hv
      · rename_i hs
        cases hv
        exact .inr ⟨p, q, py_dp g _ _ _ _ e1 rx, py_dp g _ _ _ _ e2 ry, hs.1, hs.2, here k g (by simp [Rep])⟩
      · cases hv
    · cases hv⟩, fun x y st d st' h => by
  unfold eqO at h
  repeat' split at h
  all_goals first | (cases h; exact ⟨_, rfl⟩) | cases h⟩
theorem cm_ne (hu : X.A.units + 64 < cLine) : Cmp X .NotEq (eqO true) := ⟨⟨_, op_ne.or (op_neD hu), by
  intro H μ st x y vx vy d st' Q g rx ry hv k
  unfold eqO at hv
  split at hv
  · rename_i b e
    cases hv
    obtain ⟨h1, h2⟩ := eqS_ok rx ry e
    refine .inl ⟨h1, ?_⟩
    rw [h2]
    exact here k g (by simp [Rep])
  · split at hv
    · rename_i p q e1 e2
      split at hv
      · rename_i hs
        cases hv
        exact .inr ⟨p, q, py_dp g _ _ _ _ e1 rx, py_dp g _ _ _ _ e2 ry, hs.1, hs.2, here k g (by simp [Rep])⟩
      · cases hv
    · cases hv⟩, fun x y st d st' h => by
  unfold eqO at h
  repeat' split at h
  all_goals first | (cases h; exact ⟨_, rfl⟩) | cases h⟩
def nonD : D → Bool
  | .non => true
  | _ => false
theorem rep_non {K : PySem.W.Frag} {H : Hp} {μ : List Addr} {x : D} {v : V} (r : Rep K H μ x v) : decide (v = .non) = nonD x := by
  cases x with
  | non => simp only [Rep] at r; subst r; rfl
  | bl _ => simp only [Rep] at r; subst r; rfl
  | int _ => simp only [Rep] at r; subst r; rfl
  | str _ => simp only [Rep] at r; subst r; rfl
  | tup _ => simp only [Rep] at r; obtain ⟨_, _, rfl, _⟩ := r; rfl
  | loc _ => simp only [Rep] at r; obtain ⟨_, rfl, _⟩ := r; rfl
theorem isN_eq {x : D} {neg : Bool} {st : Sto} : isNO neg x .non st = some (.bl (nonD x != neg), st) := by cases x <;> rfl
theorem isN_bl {neg : Bool} : ∀ x y st d st', isNO neg x y st = some (d, st') → ∃ b, d = .bl b := fun x y st d st' h => by
  unfold isNO at h
  repeat' split at h
  all_goals first | (cases h; exact ⟨_, rfl⟩) | cases h
theorem cm_isN : Cmp X .Is (isNO false) := ⟨⟨_, op_isN, by
  intro H μ st x y vx vy d st' Q g rx ry hv k
  cases y with
  | non =>
    simp only [Rep] at ry
    rw [isN_eq] at hv
    cases hv
    refine ⟨ry, ?_⟩
    rw [rep_non rx]
    exact here k g (by simp [Rep])
  | _ => cases hv⟩, isN_bl⟩
theorem cm_notN : Cmp X .IsNot (isNO true) := ⟨⟨_, op_notN, by
  intro H μ st x y vx vy d st' Q g rx ry hv k
  cases y with
  | non =>
    simp only [Rep] at ry
    rw [isN_eq] at hv
    cases hv
    refine ⟨ry, ?_⟩
    rw [rep_non rx]
    exact here k g (by simp [Rep])
  | _ => cases hv⟩, isN_bl⟩
theorem flat_of {K : PySem.W.Frag} {H : Hp} {μ : List Addr} {x : D} {v : V} (r : Rep K H μ x v) (h : scalD x = true) : flatV v = true := by
  cases x <;> first | (cases h; done) | (simp only [Rep] at r; subst r; rfl)
theorem flats_of {K : PySem.W.Frag} {H : Hp} {μ : List Addr} : ∀ {xs : List D} {vs : List V}, Reps K H μ xs vs → xs.all scalD = true → vs.all flatV = true
  | [], vs, r, h => by simp only [Reps] at r; subst r; rfl
  | x :: xs, vs, r, h => by
    simp only [Reps] at r
    obtain ⟨v, ws, rfl, r1, r2⟩ := r
    simp only [List.all_cons, Bool.and_eq_true] at h ⊢
    exact ⟨flat_of r1 h.1, flats_of r2 h.2⟩
theorem eqF_of {K : PySem.W.Frag} {H : Hp} {μ : List Addr} {x y : D} {vx vy : V} (rx : Rep K H μ x vx) (ry : Rep K H μ y vy) (hx : scalD x = true) (hy : scalD y = true) : eqV vy vx = eqF y x := by
  cases x <;> cases y <;> first | (cases hx; done) | (cases hy; done) | (simp only [Rep] at rx ry; subst rx ry; rfl)
theorem inF_of {K : PySem.W.Frag} {H : Hp} {μ : List Addr} {x : D} {vx : V} (rx : Rep K H μ x vx) (hx : scalD x = true) : ∀ {xs : List D} {vs : List V}, Reps K H μ xs vs → xs.all scalD = true → inV vx vs = inF x xs
  | [], vs, r, h => by simp only [Reps] at r; subst r; rfl
  | y :: xs, vs, r, h => by
    simp only [Reps] at r
    obtain ⟨v, ws, rfl, r1, r2⟩ := r
    simp only [List.all_cons, Bool.and_eq_true] at h
    have ih := inF_of rx hx r2 h.2
    unfold inV inF at ih ⊢
    rw [List.any_cons, List.any_cons, ih, eqF_of rx r1 hx h.1]
theorem in_bl {neg : Bool} : ∀ x y st d st', inO neg x y st = some (d, st') → ∃ b, d = .bl b := fun x y st d st' h => by
  unfold inO at h
  repeat' split at h
  all_goals first | (cases h; exact ⟨_, rfl⟩) | cases h
theorem ok_in {K : PySem.W.Frag} {ww : World} (neg : Bool) : Ok2 K ww (fun x y H Q => (fun x y H Q => ∃ i j, x = V.str i ∧ y = .str j ∧ Q (.bl ((!(Builtin.Str.occurrences j i 0 j.length 1).isEmpty) != neg)) H) x y H Q ∨ rIn K neg x y H Q ∨ (fun x y H Q => ∃ d ds, Dp K H x d ∧ Dp K H y (.list ds) ∧ SeqAt.shaped d = true ∧ SeqAt.shaped (.list ds) = true ∧ Q (.bl ((ds.any fun z => PyData.eqv z d) != neg)) H) x y H Q) (inO neg) := by
  have nb : ∀ b : Bool, (b != neg) = if neg then !b else b := fun b => by cases b <;> cases neg <;> rfl
  intro H μ st x y vx vy d st' Q g rx ry hv k
  cases y with
  | str b =>
    cases x with
    | str a =>
      cases hv
      simp only [Rep] at rx ry
      subst rx ry
      exact .inl ⟨a, b, rfl, rfl, here k g (by simp only [Rep])⟩
    | _ => cases hv
  | tup ys =>
    simp only [inO] at hv
    split at hv
    · rename_i hs
      cases hv
      simp only [Rep] at ry
      obtain ⟨p, vs, rfl, ⟨s, _⟩, rs⟩ := ry
      refine .inr (.inl ⟨p, vs, rfl, .inr s, flat_of rx hs.1, flats_of rs hs.2, ?_⟩)
      rw [← nb, inF_of rx hs.1 rs hs.2]
      exact here k g (by simp only [Rep])
    · cases hv
  | loc n =>
    simp only [inO] at hv
    split at hv
    · cases hv
    · rename_i ys e1
      split at hv
      · rename_i hs
        cases hv
        simp only [Rep] at ry
        obtain ⟨p, rfl, hp⟩ := ry
        obtain ⟨vs, s, rs⟩ := g.getL hp e1
        refine .inr (.inl ⟨p, vs, rfl, .inl s, flat_of rx hs.1, flats_of rs hs.2, ?_⟩)
        rw [← nb, inF_of rx hs.1 rs hs.2]
        exact here k g (by simp only [Rep])
      · split at hv
        · rename_i p qs e2 e3
          split at hv
          · rename_i hs
            cases hv
            exact .inr (.inr ⟨p, qs, py_dp g _ _ _ _ e2 rx, py_dp g _ _ _ _ e3 ry, hs.1, hs.2, here k g (by simp only [Rep])⟩)
          · cases hv
        · cases hv
  | _ => cases hv
theorem cm_in (hu : X.A.units + 65 < cLine) : Cmp X .In (inO false) := ⟨⟨_, OpR.or (r := fun x y H Q => ∃ i j, x = V.str i ∧ y = .str j ∧ Q (.bl ((!(Builtin.Str.occurrences j i 0 j.length 1).isEmpty) != false)) H)
    (fun pins s σ H x y v u Q I rx ry ⟨i, j, e1, e2, q⟩ => op_in_str pins s σ H x y v u Q I rx ry ⟨i, j, e1, e2, by rw [Bool.bne_false] at q; exact q⟩) (op_in_seq.or fun pins s σ H x y v u Q I rx ry ⟨d, ds, h1, h2, h3, h4, q⟩ => op_inD hu pins s σ H x y v u Q I rx ry ⟨d, ds, h1, h2, h3, h4, by rw [Bool.bne_false] at q; exact q⟩), ok_in false⟩, in_bl⟩
theorem cm_notin (hu : X.A.units + 65 < cLine) : Cmp X .NotIn (inO true) := ⟨⟨_, OpR.or (r := fun x y H Q => ∃ i j, x = V.str i ∧ y = .str j ∧ Q (.bl ((!(Builtin.Str.occurrences j i 0 j.length 1).isEmpty) != true)) H)
    (fun pins s σ H x y v u Q I rx ry ⟨i, j, e1, e2, q⟩ => op_notIn_str pins s σ H x y v u Q I rx ry ⟨i, j, e1, e2, by rw [Bool.bne_true] at q; exact q⟩) (op_notIn_seq.or fun pins s σ H x y v u Q I rx ry ⟨d, ds, h1, h2, h3, h4, q⟩ => op_notInD hu pins s σ H x y v u Q I rx ry ⟨d, ds, h1, h2, h3, h4, by rw [Bool.bne_true] at q; exact q⟩), ok_in true⟩, in_bl⟩
section
variable {a b c : Expr} {f g h : SE} {pos : Pos} {op op' : CmpOp} {o o' : Op2}
theorem e_cmp (hc : Cmp X op o) (ha : PE X a (rdE X.K X.w f)) (hb : PE X b (rdE X.K X.w g)) (hm : behindInMarks op b = false := by first | exact nobehind _ (by decide) (by decide) | rfl) : PE X (.Compare a [op] [b] pos) (rdE X.K X.w (binF o f g)) :=
  let ⟨_, h1, h2⟩ := hc.ex
  se_cmp h1 h2 ha hb hm
theorem t_cmp (hc : Cmp X op o) (ha : PE X a (rdE X.K X.w f)) (hb : PE X b (rdE X.K X.w g)) (hm : behindInMarks op b = false := by first | exact nobehind _ (by decide) (by decide) | rfl) : PT X (.Compare a [op] [b] pos) (rdT X.K X.w (cmpT o f g)) :=
  let ⟨_, h1, h2⟩ := hc.ex
  st_cmp h1 h2 hc.bl ha hb hm
/-- a op b op' c, as a value -/
def chnF (o o' : Op2) (f g h : SE) : SE := fun σ st => bnd (f σ st) fun x s1 => bnd (g σ s1) fun y s2 => bnd (o x y s2) fun z s3 => match z with
  | .bl true => bnd (h σ s3) fun w s4 => o' y w s4
  | .bl false => some (.bl false, s3)
  | _ => none
theorem e_chain (hc : Cmp X op o) (hc' : Cmp X op' o') (ha : PE X a (rdE X.K X.w f)) (hb : PE X b (rdE X.K X.w g)) (h3 : PE X c (rdE X.K X.w h)) (hl : lastMarks [op, op'] [b, c] = false := by rfl) : PE X (.Compare a [op, op'] [b, c] pos) (rdE X.K X.w (chnF o o' f g h)) := by
  obtain ⟨r, p1, p2⟩ := hc.ex
  obtain ⟨r', q1, q2⟩ := hc'.ex
  refine (pe_chain p1 q1 ha hb h3 hl).weak fun τ H Q ⟨μ, st, σ, d, st', gd, er, hv, k⟩ => ?_
  obtain ⟨x, s1, e1, hv⟩ := bnd_eq hv
  obtain ⟨y, s2, e2, hv⟩ := bnd_eq hv
  obtain ⟨z, s3, e3, hv⟩ := bnd_eq hv
  refine ⟨μ, st, σ, x, s1, gd, er, e1, fun μ1 H1 vx g1 d1 r1 => ?_⟩
  refine ⟨μ1, s1, σ, y, s2, d1, er.m g1, e2, fun μ2 H2 vy g2 d2 r2 => ?_⟩
  refine p2 H2 μ2 s2 x y vx vy z s3 _ d2 (r1.m g2) r2 e3 fun μ3 H3 vz g3 d3 r3 => ?_
  obtain ⟨bb, rfl⟩ := hc.bl _ _ _ _ _ e3
  simp only [Rep] at r3
  refine ⟨bb, r3, ?_⟩
  cases bb with
  | false =>
    cases hv
    exact k μ3 H3 _ ((g1.trans g2).trans g3) d3 (by simp only [Rep])
  | true =>
    show rdE X.K X.w h τ H3 _
    obtain ⟨w, s4, e4, hv⟩ := bnd_eq hv
    refine ⟨μ3, s3, σ, w, s4, d3, er.m ((g1.trans g2).trans g3), e4, fun μ4 H4 vw g4 d4 r4 => ?_⟩
    exact q2 H4 μ4 s4 y w vy vw d st' Q d4 (r2.m (g3.trans g4)) r4 hv fun μ5 H5 v g5 d5 r5 => k μ5 H5 v ((((g1.trans g2).trans g3).trans g4).trans g5) d5 r5
end
end
end Iv

namespace Iv
open PySem L2
section
variable {X : Cx} {K : PySem.W.Frag} {ww : World}
/-! ### an item -/
theorem ixN_lt {n : Nat} {i : Int} {j : Nat} (h : ixN n i = some j) : j < n := (ixN_seq h).2.1
theorem atI_rep {H : Hp} {μ : List Addr} {xs : List D} {vs : List V} {i : Int} {d : D} (r : Reps K H μ xs vs) (h : atI xs i = some d) : ∃ v, atI vs i = some v ∧ Rep K H μ d v := by
  unfold atI at h ⊢
  rw [← r.len]
  cases e : ixN xs.length i with
  | none => rw [e] at h; cases h
  | some j =>
    rw [e] at h
    obtain ⟨v, h1, h2⟩ := r.get h
    exact ⟨v, h1, h2⟩
theorem ok_ix : Ok2 K ww (rIx K) ixO := by
  intro H μ st x y vx vy d st' Q g rx ry hv k
  cases y with
  | int i =>
    simp only [Rep] at ry
    subst ry
    cases x with
    | loc n =>
      simp only [Rep] at rx
      obtain ⟨p, rfl, hp⟩ := rx
      simp only [ixO] at hv
      split at hv
      · cases hv
      · rename_i xs e
        obtain ⟨vs, s, rs⟩ := g.getL hp e
        cases e1 : atI xs i with
        | none => rw [e1] at hv; cases hv
        | some z =>
          rw [e1] at hv
          cases hv
          obtain ⟨v, h1, h2⟩ := atI_rep rs e1
          exact .inl ⟨p, vs, i, v, rfl, rfl, s, h1, here k g h2⟩
    | tup xs =>
      simp only [Rep] at rx
      obtain ⟨p, vs, rfl, ⟨s, _⟩, rs⟩ := rx
      simp only [ixO] at hv
      cases e1 : atI xs i with
      | none => rw [e1] at hv; cases hv
      | some z =>
        rw [e1] at hv
        cases hv
        obtain ⟨v, h1, h2⟩ := atI_rep rs e1
        exact .inr (.inl ⟨p, vs, i, v, rfl, rfl, s, h1, here k g h2⟩)
    | str z =>
      simp only [Rep] at rx
      subst rx
      simp only [ixO] at hv
      split at hv
      · rename_i hl
        cases e1 : atI z.cps.toList i with
        | none => rw [e1] at hv; cases hv
        | some c =>
          rw [e1] at hv
          cases hv
          exact .inr (.inr ⟨z, i, c, rfl, rfl, lim_ok hl, e1, here k g (by simp only [Rep])⟩)
      · cases hv
    | _ => cases hv
  | _ => cases x <;> cases hv
theorem e_ix {a b : Expr} {f g : SE} {pos : Pos} (ha : PE X a (rdE X.K X.w f)) (hb : PE X b (rdE X.K X.w g)) (hs : PlainIx b := by exact fun _ _ => rfl) : PE X (.Subscript a b pos) (rdE X.K X.w (binF ixO f g)) := se_ix ix_seq ok_ix ha hb hs
/-! ### built-in functions -/
theorem ok_len : OkN K ww (fun xs H Q => ∃ x n, xs = [x] ∧ LenV K x H n ∧ Q (.int n) H) lenO := by
  intro H μ st xs vs d st' Q g r hv k
  unfold lenO at hv
  split at hv
  · rename_i x st1
    split at hv
    · rename_i hl
      cases hv
      obtain ⟨v, rfl, rv⟩ := reps1 r
      simp only [Rep] at rv
      subst rv
      exact ⟨_, _, rfl, ⟨lim_ok hl, rfl⟩, here k g (by simp only [Rep])⟩
    · cases hv
  · rename_i ys
    cases hv
    obtain ⟨v, rfl, rv⟩ := reps1 r
    simp only [Rep] at rv
    obtain ⟨p, ws, rfl, ⟨s, _⟩, rs⟩ := rv
    exact ⟨_, _, rfl, .inr ⟨ws, s, rs.len⟩, here k g (by simp only [Rep])⟩
  · rename_i n
    obtain ⟨v, rfl, rv⟩ := reps1 r
    simp only [Rep] at rv
    obtain ⟨p, rfl, hp⟩ := rv
    cases e : getL st n with
    | none => rw [e] at hv; cases hv
    | some ys =>
      rw [e] at hv
      cases hv
      obtain ⟨ws, s, rs⟩ := g.getL hp e
      exact ⟨_, ys.length, rfl, .inl ⟨ws, s, rs.len⟩, here k g (by simp only [Rep])⟩
  · cases hv
theorem e_len {p pos : Pos} {e : Expr} {f : SA} (hg : Gl X "len") (hm : X.mg "len" = none) (ha : PA X [e] (rdA X.K X.w f)) (he : starEach [e] X.env = (false, eval e X.env) :: starEach [] X.env := by rfl) : PE X (.Call (.Name "len" p) [e] [] pos) (rdE X.K X.w (appF lenO f)) :=
  se_callB call_len ok_len hg hm PySem.boot_len ha (he := he)
theorem ok_intOf : OkN K ww (fun xs H Q => ((∃ i, xs = [.int i] ∧ Q (.int i) H) ∨ ∃ k, xs = [.bl k] ∧ Q (.int (if k then 1 else 0)) H) ∨ ∃ a n, xs = [.str a] ∧ PySem.intText? a = some n ∧ a.length ≤ 640 ∧ Q (.int n) H) intOf := by
  intro H μ st xs vs d st' Q g r hv k
  unfold intOf at hv
  split at hv
  · cases hv
    obtain ⟨v, rfl, rv⟩ := reps1 r
    simp only [Rep] at rv
    subst rv
    exact .inl (.inl ⟨_, rfl, here k g (by simp only [Rep])⟩)
  · cases hv
    obtain ⟨v, rfl, rv⟩ := reps1 r
    simp only [Rep] at rv
    subst rv
    exact .inl (.inr ⟨_, rfl, here k g (by simp only [Rep])⟩)
  · split at hv
    · rename_i n e
      split at hv
      · rename_i hl
        cases hv
        obtain ⟨v, rfl, rv⟩ := reps1 r
        simp only [Rep] at rv
        subst rv
        exact .inr ⟨_, n, rfl, e, hl, here k g (by simp only [Rep])⟩
      · cases hv
    · cases hv
  · cases hv
theorem e_int {p pos : Pos} {e : Expr} {f : SA} (hg : Gl X "int") (hm : X.mg "int" = none) (ha : PA X [e] (rdA X.K X.w f)) (he : starEach [e] X.env = (false, eval e X.env) :: starEach [] X.env := by rfl) : PE X (.Call (.Name "int" p) [e] [] pos) (rdE X.K X.w (appF intOf f)) :=
  se_callTy (call_int1.or call_int_str) ok_intOf hg hm (by decide +kernel) ha (he := he)
theorem ok_abs : OkN K ww (fun xs H Q => ∃ i, xs = [.int i] ∧ Q (.int (if i < 0 then -i else i)) H) absO := by
  intro H μ st xs vs d st' Q g r hv k
  unfold absO at hv
  split at hv
  · cases hv
    obtain ⟨v, rfl, rv⟩ := reps1 r
    simp only [Rep] at rv
    subst rv
    exact ⟨_, rfl, here k g (by simp only [Rep])⟩
  · cases hv
theorem e_abs {p pos : Pos} {e : Expr} {f : SA} (hg : Gl X "abs") (hm : X.mg "abs" = none) (ha : PA X [e] (rdA X.K X.w f)) (he : starEach [e] X.env = (false, eval e X.env) :: starEach [] X.env := by rfl) : PE X (.Call (.Name "abs" p) [e] [] pos) (rdE X.K X.w (appF absO f)) :=
  se_callB call_abs ok_abs hg hm (by decide +kernel) ha (he := he)
theorem ok_strOf : OkN K ww (fun xs H Q => (∃ i, xs = [.int i] ∧ i.natAbs.log2 < 1920 ∧ Q (.str (toString i)) H) ∨ ∃ a, xs = [.str a] ∧ Q (.str a) H) strOf := by
  intro H μ st xs vs d st' Q g r hv k
  unfold strOf at hv
  split at hv
  · split at hv
    · rename_i hl
      cases hv
      obtain ⟨v, rfl, rv⟩ := reps1 r
      simp only [Rep] at rv
      subst rv
      exact .inl ⟨_, rfl, hl, here k g (by simp only [Rep])⟩
    · cases hv
  · cases hv
    obtain ⟨v, rfl, rv⟩ := reps1 r
    simp only [Rep] at rv
    subst rv
    exact .inr ⟨_, rfl, here k g (by simp only [Rep])⟩
  · cases hv
theorem e_str {p pos : Pos} {e : Expr} {f : SA} (hg : Gl X "str") (hm : X.mg "str" = none) (ha : PA X [e] (rdA X.K X.w f)) (he : starEach [e] X.env = (false, eval e X.env) :: starEach [] X.env := by rfl) : PE X (.Call (.Name "str" p) [e] [] pos) (rdE X.K X.w (appF strOf f)) :=
  se_callTy (call_str_int.or SkE.call_str_str) ok_strOf hg hm (by decide +kernel) ha (he := he)
/-- tuple(l), the object told -/
def rTupN (K : PySem.W.Frag) : List V → Hp → VK → Prop := fun xs H Q => ∃ p ys, xs = [.ref p] ∧ ((SqL K H p ys ∧ ∀ (l : Addr) (o : Obj), H l = none → o.cls = .type "tuple" → o.dict = none → Q (.ref l) (upd H l (.frz o (.tup ys)))) ∨ (SqT K H p ys ∧ Q (.ref p) H))
theorem cr_tupN : CallR X (.type "tuple") (rTupN X.K) := fun pins s σ H xs us Q I r ⟨p, ys, ex, h⟩ => by
  subst ex
  obtain ⟨u, rfl, rx⟩ := vals1 r
  cases rx
  rcases h with ⟨a1, a2⟩ | ⟨a1, a2⟩
  · obtain ⟨its, rv, pl, hz⟩ := I.list a1
    refine call_tuple_list pl.isList (fun h2 kp => ?_) (by have := rv.length; simp only [List.size_toArray] <;> omega)
    have J := I.kept (t' := s.toks) kp
    exact ⟨.ref h2.objs.size, _, J.laid (t' := s.toks) (h' := h2.push { cls := .type "tuple", data := .seq its.toArray }) (o := .frz _ (.tup ys)) (fun b o e => Heap.get?_push_of_some _ e) (Nat.le_refl _) ⟨Heap.get?_push_size _ rfl, hz, its, rv, ⟨_, Heap.get?_push_size _ rfl, rfl, _, rfl⟩⟩, rfl, a2 _ _ (J.hok.fresh (Nat.le_refl _)) rfl rfl⟩
  · obtain ⟨its, rv, pl, hz⟩ := I.tuple a1
    exact call_tuple_same pl ⟨.ref p, H, I, rfl, a2⟩
theorem ok_tupleO : OkN K ww (rTupN K) tupleO := by
  intro H μ st xs vs d st' Q g r hv k
  unfold tupleO at hv
  split at hv
  · rename_i n
    obtain ⟨v, rfl, rv⟩ := reps1 r
    simp only [Rep] at rv
    obtain ⟨p, rfl, hp⟩ := rv
    cases e : getL st n with
    | none => rw [e] at hv; cases hv
    | some ys =>
      rw [e] at hv
      cases hv
      obtain ⟨ws, s, rs⟩ := g.getL hp e
      exact ⟨p, ws, rfl, .inl ⟨s, new_tup g rs k⟩⟩
  · cases hv
    obtain ⟨v, rfl, rv⟩ := reps1 r
    have rv' := rv
    simp only [Rep] at rv
    obtain ⟨p, ws, rfl, ⟨s, _⟩, rs⟩ := rv
    exact ⟨p, ws, rfl, .inr ⟨s, here k g rv'⟩⟩
  · cases hv
theorem e_tuple {p pos : Pos} {e : Expr} {f : SA} (hg : Gl X "tuple") (hm : X.mg "tuple" = none) (ha : PA X [e] (rdA X.K X.w f)) (he : starEach [e] X.env = (false, eval e X.env) :: starEach [] X.env := by rfl) : PE X (.Call (.Name "tuple" p) [e] [] pos) (rdE X.K X.w (appF tupleO f)) :=
  se_callTy cr_tupN ok_tupleO hg hm (by decide +kernel) ha (he := he)
theorem ok_listO : OkN K ww (fun xs H Q => ∃ p ys, xs = [.ref p] ∧ (SqL K H p ys ∨ SqT K H p ys) ∧ ∀ l, H l = none → Q (.ref l) (upd H l (.lst ys))) listO := by
  intro H μ st xs vs d st' Q g r hv k
  unfold listO at hv
  split at hv
  · rename_i n
    obtain ⟨v, rfl, rv⟩ := reps1 r
    simp only [Rep] at rv
    obtain ⟨p, rfl, hp⟩ := rv
    cases e : getL st n with
    | none => rw [e] at hv; cases hv
    | some ys =>
      rw [e] at hv
      cases hv
      obtain ⟨ws, s, rs⟩ := g.getL hp e
      exact ⟨p, ws, rfl, .inl s, new_lst g rs k⟩
  · cases hv
    obtain ⟨v, rfl, rv⟩ := reps1 r
    simp only [Rep] at rv
    obtain ⟨p, ws, rfl, ⟨s, _⟩, rs⟩ := rv
    exact ⟨p, ws, rfl, .inr s, new_lst g rs k⟩
  · cases hv
theorem e_list {p pos : Pos} {e : Expr} {f : SA} (hg : Gl X "list") (hm : X.mg "list" = none) (ha : PA X [e] (rdA X.K X.w f)) (he : starEach [e] X.env = (false, eval e X.env) :: starEach [] X.env := by rfl) : PE X (.Call (.Name "list" p) [e] [] pos) (rdE X.K X.w (appF listO f)) :=
  se_callTy call_list_of ok_listO hg hm (by decide +kernel) ha (he := he)
theorem bls_of {H : Hp} {μ : List Addr} : ∀ {xs : List D} {vs : List V} {bs : List Bool}, Reps K H μ xs vs → blsD xs = some bs → vs = bs.map V.bl
  | [], vs, bs, r, h => by simp only [Reps] at r; cases h; exact r
  | x :: xs, vs, bs, r, h => by
    simp only [Reps] at r
    obtain ⟨v, ws, rfl, r1, r2⟩ := r
    cases x with
    | bl b =>
      simp only [blsD] at h
      cases e : blsD xs with
      | none => rw [e] at h; cases h
      | some cs =>
        rw [e] at h
        cases h
        simp only [Rep] at r1
        rw [r1, bls_of r2 e]
        rfl
    | _ => cases h
theorem ok_any : OkN K ww (rAny K) (anyO false) := by
  intro H μ st xs vs d st' Q g r hv k
  unfold anyO at hv
  split at hv
  · rename_i n
    obtain ⟨v, rfl, rv⟩ := reps1 r
    simp only [Rep] at rv
    obtain ⟨p, rfl, hp⟩ := rv
    split at hv
    · cases hv
    · rename_i ys e
      cases e2 : blsD ys with
      | none => rw [e2] at hv; cases hv
      | some bs =>
        rw [e2] at hv
        cases hv
        obtain ⟨ws, s, rs⟩ := g.getL hp e
        rw [bls_of rs e2] at s
        exact ⟨p, bs, rfl, s, here k g (by simp [Rep])⟩
  · cases hv
theorem ok_all : OkN K ww (rAll K) (anyO true) := by
  intro H μ st xs vs d st' Q g r hv k
  unfold anyO at hv
  split at hv
  · rename_i n
    obtain ⟨v, rfl, rv⟩ := reps1 r
    simp only [Rep] at rv
    obtain ⟨p, rfl, hp⟩ := rv
    split at hv
    · cases hv
    · rename_i ys e
      cases e2 : blsD ys with
      | none => rw [e2] at hv; cases hv
      | some bs =>
        rw [e2] at hv
        cases hv
        obtain ⟨ws, s, rs⟩ := g.getL hp e
        rw [bls_of rs e2] at s
        exact ⟨p, bs, rfl, s, here k g (by simp [Rep])⟩
  · cases hv
theorem e_any {p pos : Pos} {e : Expr} {f : SA} (hc : X.calm = true) (hg : Gl X "any") (hm : X.mg "any" = none) (ha : PA X [e] (rdA X.K X.w f)) (he : starEach [e] X.env = (false, eval e X.env) :: starEach [] X.env := by rfl) : PE X (.Call (.Name "any" p) [e] [] pos) (rdE X.K X.w (appF (anyO false) f)) :=
  se_callB (cr_any hc) ok_any hg hm (by decide +kernel) ha (he := he)
theorem e_all {p pos : Pos} {e : Expr} {f : SA} (hc : X.calm = true) (hg : Gl X "all") (hm : X.mg "all" = none) (ha : PA X [e] (rdA X.K X.w f)) (he : starEach [e] X.env = (false, eval e X.env) :: starEach [] X.env := by rfl) : PE X (.Call (.Name "all" p) [e] [] pos) (rdE X.K X.w (appF (anyO true) f)) :=
  se_callB (cr_all hc) ok_all hg hm (by decide +kernel) ha (he := he)
theorem ok_max2 : OkN K ww (fun xs H Q => ∃ i j, xs = [.int i, .int j] ∧ Q (.int (if j > i then j else i)) H) max2O := by
  intro H μ st xs vs d st' Q g r hv k
  unfold max2O at hv
  split at hv
  · cases hv
    obtain ⟨v, w, rfl, rv, rw'⟩ := reps2 r
    simp only [Rep] at rv rw'
    subst rv rw'
    exact ⟨_, _, rfl, here k g (by simp only [Rep])⟩
  · cases hv
theorem ok_min2 : OkN K ww (fun xs H Q => ∃ i j, xs = [.int i, .int j] ∧ Q (.int (if j < i then j else i)) H) min2O := by
  intro H μ st xs vs d st' Q g r hv k
  unfold min2O at hv
  split at hv
  · cases hv
    obtain ⟨v, w, rfl, rv, rw'⟩ := reps2 r
    simp only [Rep] at rv rw'
    subst rv rw'
    exact ⟨_, _, rfl, here k g (by simp only [Rep])⟩
  · cases hv
theorem e_max2 {p pos : Pos} {e e2 : Expr} {f : SA} (hc : X.calm = true) (hg : Gl X "max") (hm : X.mg "max" = none) (ha : PA X [e, e2] (rdA X.K X.w f)) (he : starEach [e, e2] X.env = (false, eval e X.env) :: starEach [e2] X.env := by rfl) (hpl : (backTo pos (starEach [e2] X.env)).any (·.1) = false := by rfl) : PE X (.Call (.Name "max" p) [e, e2] [] pos) (rdE X.K X.w (appF max2O f)) :=
  se_callB (call_max2 hc) ok_max2 hg hm (by decide +kernel) ha (he := he) (hpl := hpl)
theorem e_min2 {p pos : Pos} {e e2 : Expr} {f : SA} (hc : X.calm = true) (hg : Gl X "min") (hm : X.mg "min" = none) (ha : PA X [e, e2] (rdA X.K X.w f)) (he : starEach [e, e2] X.env = (false, eval e X.env) :: starEach [e2] X.env := by rfl) (hpl : (backTo pos (starEach [e2] X.env)).any (·.1) = false := by rfl) : PE X (.Call (.Name "min" p) [e, e2] [] pos) (rdE X.K X.w (appF min2O f)) :=
  se_callB (call_min2 hc) ok_min2 hg hm (by decide +kernel) ha (he := he) (hpl := hpl)
/-! ### isinstance -/
theorem tyx_ref {H : Hp} {p : Addr} {vs : List V} (h : SqL K H p vs) : TyX K H (.ref p) (.type "list") := by
  rcases h with (h | ⟨o, h⟩) | ⟨o, its, n, h, c, _⟩
  · exact .base (.lst h)
  · exact .base (.frz h)
  · exact .kList h c
theorem tyx_tup {H : Hp} {p : Addr} {vs : List V} (h : SqT K H p vs) : TyX K H (.ref p) (.type "tuple") := by
  rcases h with (h | ⟨o, h⟩) | ⟨o, its, n, h, c, _⟩
  · exact .base (.tup h)
  · exact .fTuple h
  · exact .kTuple h c
def KitT (T : String) : Prop := kitB "NoneType" T = some false ∧ kitB "bool" T = some (T == "bool" || T == "int") ∧ kitB "int" T = some (T == "int") ∧ kitB "str" T = some (T == "str") ∧ kitB "tuple" T = some (T == "tuple") ∧ kitB "list" T = some (T == "list")
theorem e_isi {p q pos : Pos} {e : Expr} {f : SE} {T : String} {x : Str} (hT : KitT T) (hg : Gl X "isinstance") (hm : X.mg "isinstance" = none) (hgT : Gl X x) (hmT : X.mg x = none) (hvT : bootBuiltins x = some (.type T)) (ha : PE X e (rdE X.K X.w f))
    (hn : x ≠ "__name__" := by decide) (hdb : (x == ("__debug__" : Str)) = false := by decide) (he : starEach [e, .Name x q] X.env = (false, eval e X.env) :: starEach [.Name x q] X.env := by rfl) (hpl : (backTo pos (starEach [.Name x q] X.env)).any (·.1) = false := by rfl) (hs2 : starEach [.Name x q] X.env = (false, eval (.Name x q) X.env) :: starEach [] X.env := by rfl) : PE X (.Call (.Name "isinstance" p) [e, .Name x q] [] pos) (rdE X.K X.w (unF (isiO T) f)) :=
  (pe_callB call_isi hg hm (by decide +kernel) (pa_cons ha (pa_cons (pe_bltn (v := .ty T) hgT hmT hvT rfl hn hdb) pa_nil hs2) he) (by decide) (by decide) he hpl).weak fun τ H Q ⟨μ, st, σ, d, st', gd, er, hv, k⟩ => by
    obtain ⟨x, s1, h1, hv⟩ := bnd_eq hv
    obtain ⟨t1, t2, t3, t4, t5, t6⟩ := hT
    refine ⟨μ, st, σ, x, s1, gd, er, h1, fun μ1 H1 v g1 d1 r1 => ?_⟩
    cases x with
    | non => cases hv; simp only [Rep] at r1; subst r1; exact ⟨_, _, _, _, _, rfl, .ty T, .base .non, kit_ty t1, k μ1 H1 _ g1 d1 (by simp only [Rep, isi])⟩
    | bl b => cases hv; simp only [Rep] at r1; subst r1; exact ⟨_, _, _, _, _, rfl, .ty T, .base (.bl b), kit_ty t2, k μ1 H1 _ g1 d1 (by simp only [Rep, isi])⟩
    | int b => cases hv; simp only [Rep] at r1; subst r1; exact ⟨_, _, _, _, _, rfl, .ty T, .base (.int b), kit_ty t3, k μ1 H1 _ g1 d1 (by simp only [Rep, isi])⟩
    | str b => cases hv; simp only [Rep] at r1; subst r1; exact ⟨_, _, _, _, _, rfl, .ty T, .base (.str b), kit_ty t4, k μ1 H1 _ g1 d1 (by simp only [Rep, isi])⟩
    | tup xs =>
      cases hv
      simp only [Rep] at r1
      obtain ⟨a, vs, rfl, s, _⟩ := r1
      exact ⟨_, _, _, _, _, rfl, .ty T, tyx_tup s.1, kit_ty t5, k μ1 H1 _ g1 d1 (by simp only [Rep, isi])⟩
    | loc n =>
      simp only [isiO] at hv
      cases e9 : getL s1 n with
      | none => rw [e9] at hv; cases hv
      | some xs =>
        rw [e9] at hv
        cases hv
        simp only [Rep] at r1
        obtain ⟨a, rfl, hp⟩ := r1
        obtain ⟨vs, s, _⟩ := d1.getL hp e9
        exact ⟨_, _, _, _, _, rfl, .ty T, tyx_ref s, kit_ty t6, k μ1 H1 _ g1 d1 (by simp only [Rep, isi])⟩
theorem kit_list : KitT "list" := by unfold KitT; decide +kernel
theorem kit_tuple : KitT "tuple" := by unfold KitT; decide +kernel
theorem kit_str : KitT "str" := by unfold KitT; decide +kernel
theorem kit_int : KitT "int" := by unfold KitT; decide +kernel
theorem kit_bool : KitT "bool" := by unfold KitT; decide +kernel
/-! ### methods -/
theorem ok_append : OkM K ww rAppend appendO := by
  intro H μ st x ys vx vs d st' Q g rx r hv k
  cases x with
  | loc n =>
    simp only [appendO] at hv
    split at hv
    · rename_i n' y e9
      cases e9
      split at hv
      · cases hv
      · rename_i xs e
        split at hv
        · rename_i hl
          cases hv
          simp only [Rep] at rx
          obtain ⟨p, rfl, hp⟩ := rx
          obtain ⟨v, rfl, rv⟩ := reps1 r
          obtain ⟨ws, hH, rs⟩ := g.getM hp e
          have gw : Gr H μ (upd H p (.lst (ws ++ [v]))) μ := gr_write hH
          exact ⟨p, ws, v, rfl, rfl, hH, lim_lt (by rw [← rs.len]; exact hl), k μ _ _ gw (g.write hp (getM_get e) hH (rs.app (reps_cons rv reps_nil))) (by simp only [Rep])⟩
        · cases hv
    · cases hv
  | _ => cases hv
theorem e_append {o e : Expr} {apos cpos : Pos} {f : SE} {g : SA} (ho : PE X o (rdE X.K X.w f)) (ha : PA X [e] (rdA X.K X.w g))
    (hbase : attributeBase o "append" X.env (eval o X.env) = eval o X.env := by rfl)
    (hfew : ((backTo cpos (starEach [e] X.env)).all (fun x => !x.1) && (backToKw cpos (keywordEach [] X.env)).all (fun x => x.1.isSome)
      && decide ([e].length + ([] : List Keyword).length + (if ([] : List Keyword).isEmpty then 0 else 1) < 30)) = true := by rfl)
    (hline : (apos.endLine == cpos.line) = true := by rfl) (hs : starEach [e] X.env = (false, eval e X.env) :: starEach [] X.env := by rfl) :
    PE X (.Call (.Attribute o "append" apos) [e] [] cpos) (rdE X.K X.w (bmF "list" appendO f g)) :=
  se_bm PySem.F.plainAttrs_list PySem.F.slot_list_append PySem.F.type_list_append mt_append ok_append ho ha hbase hfew hline hs rfl
end
end Iv

namespace Iv
open PySem L2 PySem.Spec
section
variable {X : Cx} {K : PySem.W.Frag} {ww : World}
/-! ### x op= e -/
def iaddO : Op2
  | .int i, .int j, st => some (.int (i + j), st)
  | .str a, .str b, st => if a.length + b.length ≤ LIM then some (.str (a ++ b), st) else none
  | _, _, _ => none
theorem ok_iadd : Ok2 K ww (fun x y H Q => (rI0 fun i j => V.int (i + j)) x y H Q ∨ (fun x y H Q => ∃ i j, x = V.str i ∧ y = .str j ∧ i.length + j.length ≤ sizeLine ∧ Q (.str (i ++ j)) H) x y H Q) iaddO := by
  intro H μ st x y vx vy d st' Q g rx ry hv k
  cases x with
  | int i =>
    cases y with
    | int j =>
      simp only [Rep] at rx ry
      subst rx ry
      cases hv
      exact .inl ⟨i, j, rfl, rfl, here k g (by simp only [Rep])⟩
    | _ => cases hv
  | str a =>
    cases y with
    | str b =>
      simp only [Rep] at rx ry
      subst rx ry
      simp only [iaddO] at hv
      split at hv
      · rename_i hl
        cases hv
        exact .inr ⟨a, b, rfl, rfl, lim_ok hl, here k g (by simp only [Rep])⟩
      · cases hv
    | _ => cases hv
  | _ => cases hv
theorem s_iadd {i : Nat} {x : Str} {e : Expr} {f : SE} {pos pos' : Pos} (hN : X.N.Nodup) (hi : X.N[i]? = some x) (hx : Loc X.env.scope x) (he : PE X e (rdE X.K X.w f)) (hf : X.fn x = true ∨ X.env.scope.names.lookup x = some .local := by first | exact .inl rfl | exact .inr rfl | assumption) :
    PS X (.AugAssign (.Name x pos') .Add e pos) (rdS X.K X.w (augS i iaddO f)) := ss_aug hN hi hx he (OpR.or iop_add iop_add_str) ok_iadd hf
/-! ### constants of the module -/
def Con (K : PySem.W.Frag) (mg : Str → Option Value) (x : Str) (d : D) : Prop := ∃ u v, mg x = some u ∧ RelV v u ∧ ∀ H μ, Rep K H μ d v
theorem e_con {x : Str} {d : D} {pos : Pos} (C : Con X.K X.mg x d) (hg : Gl X x) (hd : (x == ("__debug__" : Str)) = false := by decide) : PE X (.Name x pos) (rdE X.K X.w (cstF d)) := by
  obtain ⟨u, v, hm, r, q⟩ := C
  exact se_cst (pe_glob hg hm r hd) q
/-! the same, item by item -/
mutual
inductive CV (K : PySem.W.Frag) : Value → D → Prop
  | non : CV K .none .non
  | bl (b : Bool) : CV K (.bool b) (.bl b)
  | int {i : Int} {t : Tok} : CV K (.int i t) (.int i)
  | str {x : Str} {t : Tok} : CV K (.str x t) (.str x)
  | tup {p : Addr}  {its : Array Value} {n : Nat} {sl : Array (Option Value)} {ds : List D} (l : K.lookup p = some ⟨.type "tuple", none, .seq its n, sl⟩) (z : its.size ≤ 1000) (h : CVs K its.toList ds) : CV K (.ref p) (.tup ds)
inductive CVs (K : PySem.W.Frag) : List Value → List D → Prop
  | nil : CVs K [] []
  | cons {u : Value} {us : List Value} {d : D} {ds : List D} (h : CV K u d) (r : CVs K us ds) : CVs K (u :: us) (d :: ds)
end
mutual
theorem cv_ok {K : PySem.W.Frag} : ∀ {u : Value} {d : D}, CV K u d → ∃ v, RelV v u ∧ ∀ H μ, Rep K H μ d v
  | _, _, .non => ⟨.non, rfl, fun _ _ => by simp only [Rep]⟩
  | _, _, .bl b => ⟨.bl b, rfl, fun _ _ => by simp only [Rep]⟩
  | _, _, .int => ⟨.int _, ⟨_, rfl⟩, fun _ _ => by simp only [Rep]⟩
  | _, _, .str => ⟨.str _, ⟨_, rfl⟩, fun _ _ => by simp only [Rep]⟩
  | _, _, .tup l z h => by
    obtain ⟨vs, r, q⟩ := cvs_ok h
    exact ⟨.ref _, rfl, fun H μ => rep_tup (.inr ⟨_, _, _, l, rfl, rfl, Nat.le_trans z (by rw [sizeLine_eq]; decide), r⟩) (fun _ => .inr ⟨_, l, rfl, rfl⟩) (q H μ)⟩
theorem cvs_ok {K : PySem.W.Frag} : ∀ {us : List Value} {ds : List D}, CVs K us ds → ∃ vs, Vals vs us ∧ ∀ H μ, Reps K H μ ds vs
  | _, _, .nil => ⟨[], .nil, fun _ _ => reps_nil⟩
  | _, _, .cons h r => by
    obtain ⟨v, r1, q⟩ := cv_ok h
    obtain ⟨vs, rs, qs⟩ := cvs_ok r
    exact ⟨v :: vs, .cons r1 rs, fun H μ => reps_cons (q H μ) (qs H μ)⟩
end
theorem con_mk {h : Heap} {mg : Str → Option Value} {x : Str} {u : Value} {d : D} (X : K.In h) (G : h.Ns mainGlobals mg) (a : PySem.W.nsIn K mainGlobals x = some (some u)) (c : CV K u d) : Con K mg x d := by
  obtain ⟨v, r, q⟩ := cv_ok c
  exact ⟨u, v, PySem.W.mg_of X G a, r, q⟩
/-! ### defs -/
structure Def (K : PySem.W.Frag) (mg : Str → Option Value) (x : Str) (st : Stmt) (ps : List Str) : Prop where
  ex : ∃ f fd, Fun K x x st f fd ∧ mg x = some (.ref f) ∧ Binds K fd ps []
theorem def_mk {h : Heap} {mg : Str → Option Value} {x : Str} {st : Stmt} {ps : List Str} {f : Addr} {oc kV doc pm cdv ct : Value} {od an : Option Addr} {osl : Array (Option Value)} (X : K.In h) (G : h.Ns mainGlobals mg)
    (a : PySem.W.nsIn K mainGlobals x = some (some (.ref f))) (l : K.lookup f = some ⟨oc, od, .func (PySem.W.fnOf x x (defArgs st) (defBody st) (defScope st) .none kV doc pm an cdv ct), osl⟩) (c : PySem.W.codeIn K cdv x = true) (k : PySem.W.keepIn K (.ref f) = true)
    (b : ∀ (kV doc pm : Value) (an : Option Addr) (cdv ct : Value) (us : List Value), us.length = ps.length → bindArgs (PySem.W.fnOf x x (defArgs st) (defBody st) (defScope st) .none kV doc pm an cdv ct) ⟨us, []⟩ = pure (ps.zip us)) : Def K mg x st ps :=
  ⟨f, _, fun_mk l c k, PySem.W.mg_of X G a, (fun_mk l c k).binds b⟩
structure Cal (P : Program) (w : World) (K : PySem.W.Frag) (mg : Str → Option Value) (base : Heap) (k : Nat) (x : Str) (ps : List Str) (φ : Fx) : Prop where
  ex : ∃ f fd, FnOk P w K mg base CX0 k f fd ps (spF K w ps.length φ) ∧ mg x = some (.ref f) ∧ PySem.W.keepIn K (.ref f) = true ∧ Binds K fd ps []
  np : ∀ ds st d st', φ ds st = some (d, st') → ds.length = ps.length
theorem e_call {n : Nat} {x : Str} {ps : List Str} {φ : Fx} {p pos : Pos} {e : Expr} {es : List Expr} {g : SA} (C : Cal X.prog X.w X.K X.mg X.base n x ps φ) (hr : Room n X.A) (hg : Gl X x)
    (ha : PA X (e :: es) (rdA X.K X.w g)) (hdb : (x == ("__debug__" : Str)) = false := by decide) (he : starEach (e :: es) X.env = (false, eval e X.env) :: starEach es X.env := by rfl) (hpl : (backTo pos (starEach es X.env)).any (·.1) = false := by rfl) :
    PE X (.Call (.Name x p) (e :: es) [] pos) (rdE X.K X.w (callF φ g)) := by
  obtain ⟨f, fd, G, hm, hk, hb⟩ := C.ex
  exact se_call G hr hg hm hk hb ha C.np hdb he hpl
section
variable {P : Program} {w : World} {mg : Str → Option Value} {base : Heap} {k : Nat} {x : Str} {ps N : List Str} {st : Stmt} {body : SS}
theorem cal_ok (Df : Def K mg x st ps) (S : FnScope N ps (defScope st)) (hns : ps.length ≤ N.length)
    (hb : ∀ (f : Addr) (cdv : Value) (A : Around) (outer : List Env) (s : Shared) (H : Hp) (E : XK), Room k (A.deeper (PyProof.Rows.envOfC x (defScope st) s.heap.objs.size f cdv)) →
      PSs (cxOf CX0 P w K mg base N x (defScope st) f cdv A outer s H E).nox (defBody st) (rdS K w body)) :
    Cal P w K mg base (k + 1) x ps (runF N.length ps.length body) := by
  obtain ⟨f, fd, F, hm, hbd⟩ := Df.ex
  exact ⟨⟨f, fd, fn_ok F S hns fun cdv A outer s H E hr => hb f cdv A outer s H E hr, hm, F.kp, hbd⟩, runF_np⟩
theorem cal_zero (Df : Def K mg x st ps) : Cal P w K mg base 0 x ps (fun _ _ => none) := by
  obtain ⟨f, fd, F, hm, hbd⟩ := Df.ex
  exact ⟨⟨f, fd, fn_zero fun _ _ => rfl, hm, F.kp, hbd⟩, fun _ _ _ _ h => by cases h⟩
theorem r64 {n : Nat} {A : Around} (hr : Room n A) : A.units + 64 < cLine := hr.units
theorem r65 {n : Nat} {A : Around} (hr : Room n A) : A.units + 65 < cLine := by have := hr.un; omega
/-- the law's own def -/
structure LawDef (K : PySem.W.Frag) (mg : Str → Option Value) (st : Stmt) : Prop where
  ex : ∃ f fd, Fun K "law" "law" st f fd ∧ mg "law" = some (.ref f) ∧ ∀ (s : Shared) (u : Value), BindsTo s fd ⟨[u], []⟩ [(("script" : Str), u)]
theorem lawdef_mk {h : Heap} {mg : Str → Option Value} {st : Stmt} {f : Addr} {oc kV doc pm cdv ct : Value} {od an : Option Addr} {osl : Array (Option Value)} (X : K.In h) (G : h.Ns mainGlobals mg)
    (a : PySem.W.nsIn K mainGlobals "law" = some (some (.ref f))) (l : K.lookup f = some ⟨oc, od, .func (PySem.W.fnOf "law" "law" (defArgs st) (defBody st) (defScope st) .none kV doc pm an cdv ct), osl⟩) (c : PySem.W.codeIn K cdv "law" = true) (k : PySem.W.keepIn K (.ref f) = true)
    (b : ∀ (kV doc pm : Value) (an : Option Addr) (cdv ct u : Value), bindArgs (PySem.W.fnOf "law" "law" (defArgs st) (defBody st) (defScope st) .none kV doc pm an cdv ct) ⟨[u], []⟩ = pure [(("script" : Str), u)]) : LawDef K mg st :=
  ⟨f, _, fun_mk l c k, PySem.W.mg_of X G a, fun s u => .of_eq (b kV doc pm an cdv ct u)⟩
/-- the law's row, from its def's promise -/
theorem walk {l : PySem.W.OpenLaw} {k : Nat} {q : Program} {loose : List Str} {XP : (Str → Option Value) → Heap → Prop} {YP : World → Heap → Prop} {d : DefRec} {K : Params → PySem.W.Frag} {body : SS} {N : List Str} {st : Stmt} (hn : l.most = some 63) (hdf : d.params.defaults = []) (hdn : d.name = "law") (hr : Room (k + 1) callerA)
    (S : FnScope N ["script"] (defScope st)) (hns : 1 ≤ N.length)
    (hY : ∀ (w : World) (h : Heap), YP w h → (K w.params).In h)
    (law : ∀ ns : List Int, ns.length ≤ 63 → ∃ st', runF N.length 1 body [.loc 0] [.frz (ns.map .int)] = some (.bl true, st'))
    (B : ∀ (w : World) (mg : Str → Option Value) (h : Heap), (K w.params).In h → h.Ns mainGlobals mg → LawDef (K w.params) mg st ∧ ∀ base : Heap, ∀ (f : Addr) (cdv : Value) (A : Around) (outer : List Env) (s : Shared) (H : Hp) (E : XK), Room k (A.deeper (PyProof.Rows.envOfC "law" (defScope st) s.heap.objs.size f cdv)) →
      PSs (cxOf CX0 l.prog w (K w.params) mg base N "law" (defScope st) f cdv A outer s H E).nox (defBody st) (rdS (K w.params) w body)) :
    PySem.W.WalkO q loose XP YP l.row.toRowW d [] (fun f vs => PySem.call f vs) :=
  walk_of (n := 63) (k := k + 1) (x := "script") (CX := fun _ => CX0) (sp := fun w => spLaw (K w.params)) hn (by rw [sizeLine_eq]; decide) hdf hr hY (fun w mg fa h KX G hmg => by
    obtain ⟨⟨f, fd, F, hm, bd⟩, ok⟩ := B w mg h KX G
    rw [hdn, hm] at hmg
    cases hmg
    exact ⟨fd, bd, fun base hb1 hb2 => law_ok (fn_ok F S hns fun cdv A outer s H E hr => ok base _ cdv A outer s H E hr) law⟩) (fun w H a ns hl hO hS => ⟨a, ns, rfl, only_sql hO hS, hl, fun _ => rfl⟩) fun _ _ _ _ _ z => z
end
end
end Iv

namespace Iv
open PySem L2 PySem.Spec
section
variable {X : Cx} {K : PySem.W.Frag} {ww : World}
theorem cut_reps {H : Hp} {μ : List Addr} {xs : List D} {vs : List V} (r : Reps K H μ xs vs) (lo hi : Option Int) : Reps K H μ (cutD xs lo hi) (cutV vs lo hi) := by
  unfold cutD cutV
  rw [← r.len]
  exact (r.drop _).take _
theorem ok_cut : OkS K ww (fun x lo hi H Q => rSlL K x lo hi H Q ∨ rSlA K x lo hi H Q ∨ rSlS x lo hi H Q) cutO := by
  intro H μ st x vx lo hi d st' Q g rx hv k
  cases x with
  | loc n =>
    simp only [Rep] at rx
    obtain ⟨p, rfl, hp⟩ := rx
    simp only [cutO] at hv
    cases e : getL st n with
    | none => rw [e] at hv; cases hv
    | some ys =>
      rw [e] at hv
      cases hv
      obtain ⟨ws, s, rs⟩ := g.getL hp e
      exact .inl ⟨p, ws, rfl, s, new_lst g (cut_reps rs lo hi) k⟩
  | tup xs =>
    simp only [cutO] at hv
    split at hv
    · cases hv
    rename_i hns
    have hns' : nst (cutD xs lo hi) = false := by simpa using hns
    cases hv
    have rx' := rx
    simp only [Rep] at rx
    obtain ⟨p, ws, rfl, ⟨s, _⟩, rs⟩ := rx
    refine .inr (.inl ⟨p, ws, rfl, s, fun ⟨e1, e2⟩ => ?_, fun _ => new_tupP g hns' (cut_reps rs lo hi) k⟩)
    have e : cutD xs lo hi = xs := by
      unfold cutD
      rw [rs.len, e1, e2, List.drop_zero, Nat.sub_zero, ← rs.len, List.take_length]
    rw [e] at k
    exact here k g rx'
  | str x =>
    simp only [Rep] at rx
    subst rx
    simp only [cutO] at hv
    split at hv
    · rename_i hl
      cases hv
      exact .inr (.inr ⟨x, rfl, lim_ok hl, here k g (by simp only [Rep])⟩)
    · cases hv
  | _ => cases hv
theorem e_slice {e : Expr} {lo hi : Option Expr} {p2 pos : Pos} {f : SE} {l h : SO} (he : PE X e (rdE X.K X.w f)) (hl : PO X lo (rdO X.K X.w l)) (hh : PO X hi (rdO X.K X.w h)) :
    PE X (.Subscript e (.Slice lo hi none p2) pos) (rdE X.K X.w (slF cutO f l h)) := se_slice (SlR.or sl_list (SlR.or sl_tupA sl_str)) ok_cut he hl hh
/-- name = [..] -/
theorem rd_asgC {vs : List Nat} {i : SJ} {gg : TG} {g : Tg} {c : ST} {e : SE} {j : Nat} (ok : OkG K gg g) (ow : OwnG vs gg) : ∀ Dn τ H, rdS K ww (asgS (nmG j) (compF vs i g c e)) Dn τ H → tAsg (tLc (rdI K ww i) gg (rdT K ww c) (rdE K ww e) vs) (gName j) Dn τ H := fun Dn τ H h => by
  have h2 := rd_asg (g := nmG j) (gg := gName j) (f := compF vs i g c e) ok_name Dn τ H h
  exact rd_comp ok ow τ H _ h2
theorem s_setLc {i : Nat} {y : Str} {py : Pos} {elt tg iter : Expr} {ifs : List Expr} {scope : Scope} {own : List (Str × Nat)} {pos spos : Pos} {it : SJ} {gg : TG} {g : Tg} {c : ST} {e : SE} (hc : X.calm = true) (hN : X.N.Nodup) (hi : PI X tg iter (rdI X.K X.w it)) (ok : BlkOk X.N X.env.scope scope own)
    (hg : ∀ (s : Shared) (H : Hp) (C : Addr) (cl : List (Str × Addr)) (fp : List Addr), PG (X.blk s H scope (compEnvC scope cl C X.env) fp) tg gg) (okg : OkG X.K gg g) (ow : OwnG (own.map (·.2)) gg)
    (ht : ∀ (s : Shared) (H : Hp) (C : Addr) (cl : List (Str × Addr)) (fp : List Addr), PTs (X.blk s H scope (compEnvC scope cl C X.env) fp) ifs (rdT X.K X.w c))
    (he : ∀ (s : Shared) (H : Hp) (C : Addr) (cl : List (Str × Addr)) (fp : List Addr), PE (X.blk s H scope (compEnvC scope cl C X.env) fp) elt (rdE X.K X.w e))
    (hy : X.N[i]? = some y := by rfl) (hyl : X.env.scope.names.lookup y = some .local := by rfl) (hsw : swapsWith (.ListComp elt [⟨tg, iter, ifs, 0⟩] scope pos) (some (.Name y py)) spos.line X.env = pure true := by exact sw_true rfl rfl rfl (by decide +kernel)) (hs : ∀ x, foldedSetIterable iter X.env x = pure x := by intro _; rfl) :
    PS X (.Assign [.Name y py] (.ListComp elt [⟨tg, iter, ifs, 0⟩] scope pos) spos) (rdS X.K X.w (asgS (nmG i) (compF (own.map (·.2)) it g c e))) := (ps_setLc hc hN hy hyl hsw hi ok hg ht he hs).weak (rd_asgC okg ow)
end
end Iv

namespace Iv
open PySem L2
/-! ### meanings, step by step -/
section
variable {σ σ1 σ2 : Sl} {st st1 st2 : Sto} {d : D} {f g : SE} {o : Op2} {c t : ST} {a b : SS} {i n m : Nat} {r : R}
@[simp] theorem varF_eq : varF i σ st = (match σ[i]? with
  | some (some d) => some (d, st)
  | _ => none) := rfl
@[simp] theorem cstF_eq : cstF d σ st = some (d, st) := rfl
@[simp] theorem binF_eq : binF o f g σ st = bnd (f σ st) fun x st1 => bnd (g σ st1) fun y st2 => o x y st2 := rfl
@[simp] theorem unF_eq {o : Op1} : unF o f σ st = bnd (f σ st) fun x st1 => o x st1 := rfl
@[simp] theorem nilF_eq : nilF σ st = some ([], st) := rfl
@[simp] theorem consF_eq {g : SA} : consF f g σ st = bnd (f σ st) fun x st1 => bnd (g σ st1) fun xs st2 => some (x :: xs, st2) := rfl
@[simp] theorem appF_eq {o : OpN} {g : SA} : appF o g σ st = bnd (g σ st) fun xs st1 => o xs st1 := rfl
@[simp] theorem callF_eq {φ : Fx} {g : SA} : callF φ g σ st = bnd (g σ st) fun xs st1 => φ xs st1 := rfl
@[simp] theorem bmF_eq {T : String} {o : OpM} {g : SA} : bmF T o f g σ st = bnd (f σ st) fun x st1 => if isTy T x st1 = true then bnd (g σ st1) fun xs st2 => o x xs st2 else none := rfl
@[simp] theorem bm0F_eq {T : String} {o : OpM} : bm0F T o f σ st = bnd (f σ st) fun x st1 => if isTy T x st1 = true then o x [] st1 else none := rfl
@[simp] theorem tupF_eq {g : SA} : tupF g σ st = bnd (g σ st) fun xs st1 => if xs.length ≤ LIM then some (.tup xs, st1) else none := rfl
@[simp] theorem lstF_eq {g : SA} : lstF g σ st = bnd (g σ st) fun xs st1 => if xs.length ≤ LIM then some (.loc st1.length, st1 ++ [.lst xs]) else none := rfl
@[simp] theorem truF_eq : truF f σ st = bnd (f σ st) fun x st1 => (truth x st1).map fun b => (b, st1) := rfl
@[simp] theorem cmpT_eq : cmpT o f g σ st = bnd (binF o f g σ st) fun x st1 => (truth x st1).map fun b => (b, st1) := rfl
@[simp] theorem andT_eq : andT c t σ st = bnd (c σ st) fun b st1 => if b = true then t σ st1 else some (false, st1) := rfl
@[simp] theorem orT_eq : orT c t σ st = bnd (c σ st) fun b st1 => if b = true then some (true, st1) else t σ st1 := rfl
@[simp] theorem notT_eq : notT c σ st = bnd (c σ st) fun b st1 => some (!b, st1) := rfl
@[simp] theorem andF_eq : andF f g σ st = bnd (f σ st) fun x st1 => (truth x st1).bind fun b => if b = true then g σ st1 else some (x, st1) := rfl
@[simp] theorem orF_eq : orF f g σ st = bnd (f σ st) fun x st1 => (truth x st1).bind fun b => if b = true then some (x, st1) else g σ st1 := rfl
@[simp] theorem notF_eq : notF f σ st = bnd (f σ st) fun x st1 => (truth x st1).map fun b => (.bl (!b), st1) := rfl
@[simp] theorem ifF_eq : ifF c f g σ st = bnd (c σ st) fun b st1 => if b = true then f σ st1 else g σ st1 := rfl
@[simp] theorem chnF_eq {o o' : Op2} {h : SE} : chnF o o' f g h σ st = bnd (f σ st) fun x s1 => bnd (g σ s1) fun y s2 => bnd (o x y s2) fun z s3 => match z with
  | .bl true => bnd (h σ s3) fun w s4 => o' y w s4
  | .bl false => some (.bl false, s3)
  | _ => none := rfl
@[simp] theorem noneO_eq : noneO σ st = some (none, st) := rfl
@[simp] theorem someO_eq : someO f σ st = bnd (f σ st) fun x st1 => match x with
  | .int i => some (some i, st1)
  | _ => none := rfl
@[simp] theorem slF_eq {o : OpS} {lo hi : SO} : slF o f lo hi σ st = bnd (f σ st) fun x s1 => bnd (lo σ s1) fun l s2 => bnd (hi σ s2) fun h s3 => o x l h s3 := rfl
@[simp] theorem nxS_eq : nxS σ st = some (.nx σ, st) := rfl
@[simp] theorem brkS_eq : brkS σ st = some (.brk σ, st) := rfl
@[simp] theorem cntS_eq : cntS σ st = some (.cnt σ, st) := rfl
@[simp] theorem retNS_eq : retNS σ st = some (.ret .non, st) := rfl
@[simp] theorem exS_eq : exS f σ st = bnd (f σ st) fun _ st1 => some (.nx σ, st1) := rfl
@[simp] theorem retS_eq : retS f σ st = bnd (f σ st) fun d st1 => some (.ret d, st1) := rfl
@[simp] theorem ifS_eq : ifS c a b σ st = bnd (c σ st) fun x st1 => if x = true then a σ st1 else b σ st1 := rfl
@[simp] theorem asgS_eq {g : Tg} : asgS g f σ st = bnd (f σ st) fun d st1 => (g d σ).map fun σ1 => (.nx σ1, st1) := rfl
@[simp] theorem nmG_eq : nmG i d σ = some (σ.set i (some d)) := rfl
@[simp] theorem tupG_eq {is : List Nat} {ds : List D} : tupG is (.tup ds) σ = nmsG is ds σ := rfl
@[simp] theorem nmsG_nil : nmsG [] [] σ = some σ := rfl
@[simp] theorem nmsG_cons {is : List Nat} {ds : List D} : nmsG (i :: is) (d :: ds) σ = nmsG is ds (σ.set i (some d)) := rfl
theorem seqS_eq : seqS a b σ st = (match a σ st with
  | some (.nx σ', st1) => b σ' st1
  | r => r) := rfl
theorem seq_nx (h : a σ st = some (.nx σ1, st1)) : seqS a b σ st = b σ1 st1 := by rw [seqS_eq, h]
theorem seq_ret (h : a σ st = some (.ret d, st1)) : seqS a b σ st = some (.ret d, st1) := by rw [seqS_eq, h]
@[simp] theorem augS_eq : augS i o f σ st = (match σ[i]? with
  | some (some x) => bnd (f σ st) fun y s1 => bnd (o x y s1) fun z s2 => some (.nx (σ.set i (some z)), s2)
  | _ => none) := rfl
@[simp] theorem setS_eq {fo fi : SE} : setS fo fi f σ st = bnd (f σ st) fun d s1 => bnd (fo σ s1) fun o s2 => bnd (fi σ s2) fun i s3 => match o, i with
  | .loc n, .int k => (getM s3 n).bind fun xs => (ixN xs.length k).map fun j => (.nx σ, s3.set n (.lst (xs.set j d)))
  | _, _ => none := rfl
@[simp] theorem anyI_eq : anyI f σ st = bnd (f σ st) fun d s1 => match d with
  | .loc n => (getL s1 n).map fun _ => (.lst n, s1)
  | .tup xs => some (.cns xs, s1)
  | .str x => some (.cns (charsD x), s1)
  | _ => none := rfl
@[simp] theorem rngI1_eq {g : SA} : rngI1 g σ st = bnd (g σ st) fun ds s1 => match ds with
  | [.int j] => if -(2 ^ 62) ≤ j ∧ j < 2 ^ 62 then some (.cns (rngD 0 j.toNat), s1) else none
  | _ => none := rfl
@[simp] theorem rngI2_eq {g : SA} : rngI2 g σ st = bnd (g σ st) fun ds s1 => match ds with
  | [.int i, .int j] => if -(2 ^ 62) ≤ i ∧ i < 2 ^ 62 ∧ -(2 ^ 62) ≤ j ∧ j < 2 ^ 62 then some (.cns (rngD i (j - i).toNat), s1) else none
  | _ => none := rfl
@[simp] theorem enmI_eq {g : SA} : enmI g σ st = bnd (g σ st) fun ds s1 => match ds with
  | [.loc n] => (getL s1 n).map fun _ => (.enm n, s1)
  | _ => none := rfl
theorem forS_eq {i : SJ} {g : Tg} : forS i g b σ st = bnd (i σ st) fun J s1 => match items J s1 with
  | none => none
  | some xs => forV J g b (xs.length + 1) 0 σ s1 := rfl
@[simp] theorem items_cns {xs : List D} : items (.cns xs) st = some xs := rfl
@[simp] theorem items_lst : items (.lst n) st = getL st n := rfl
theorem items_zip {m : Nat} {xs ys : List D} (h1 : getL st n = some xs) (h2 : getL st m = some ys) (h : (zipD xs ys).all notTx = true) : items (.zip n m) st = some (zipD xs ys) := by
  simp only [items, h1, h2, h, if_true]
@[simp] theorem items_enm : items (.enm n) st = (getL st n).map (enumD 0) := rfl
theorem runF_eq {ns np : Nat} {ds : List D} : runF ns np b ds st = if ds.length = np then (match b (ds.map some ++ List.replicate (ns - np) none) st with
  | some (.nx _, s) => some (.non, s)
  | some (.ret d, s) => some (d, s)
  | _ => none) else none := rfl
theorem run_ret {ns np : Nat} {ds : List D} (hl : ds.length = np) (h : b (ds.map some ++ List.replicate (ns - np) none) st = some (.ret d, st1)) : runF ns np b ds st = some (d, st1) := by rw [runF_eq, if_pos hl, h]
theorem run_nx {ns np : Nat} {ds : List D} (hl : ds.length = np) (h : b (ds.map some ++ List.replicate (ns - np) none) st = some (.nx σ1, st1)) : runF ns np b ds st = some (.non, st1) := by rw [runF_eq, if_pos hl, h]
@[simp] theorem addO_int {i j : Int} : addO (.int i) (.int j) st = some (.int (i + j), st) := rfl
@[simp] theorem addO_str {i j : Str} : addO (.str i) (.str j) st = if i.length + j.length ≤ LIM then some (.str (i ++ j), st) else none := rfl
@[simp] theorem addO_tup {i j : List D} : addO (.tup i) (.tup j) st = if i.length + j.length ≤ LIM ∧ nst (i ++ j) = false then some (.tup (i ++ j), st) else none := rfl
@[simp] theorem subO_int {i j : Int} : subO (.int i) (.int j) st = some (.int (i - j), st) := rfl
@[simp] theorem mulO_int {i j : Int} : mulO (.int i) (.int j) st = if cMul i j = true then some (.int (i * j), st) else none := by simp only [mulO, intO]
@[simp] theorem fdivO_int {i j : Int} : fdivO (.int i) (.int j) st = if cDiv i j = true then some (.int (i / j), st) else none := by simp only [fdivO, intO]
@[simp] theorem modO_int {i j : Int} : modO (.int i) (.int j) st = if cPos i j = true then some (.int (i % j), st) else none := by simp only [modO, intO]
@[simp] theorem powO_int {i j : Int} : powO (.int i) (.int j) st = if cPow i j = true then some (.int (i ^ j.toNat), st) else none := by simp only [powO, intO]
@[simp] theorem ltO_int {i j : Int} : ltO (.int i) (.int j) st = some (.bl (decide (i < j)), st) := rfl
@[simp] theorem leO_int {i j : Int} : leO (.int i) (.int j) st = some (.bl (decide (i ≤ j)), st) := rfl
@[simp] theorem gtO_int {i j : Int} : gtO (.int i) (.int j) st = some (.bl (decide (j < i)), st) := rfl
@[simp] theorem geO_int {i j : Int} : geO (.int i) (.int j) st = some (.bl (decide (j ≤ i)), st) := rfl
@[simp] theorem iaddO_int {i j : Int} : iaddO (.int i) (.int j) st = some (.int (i + j), st) := rfl
@[simp] theorem iaddO_str {i j : Str} : iaddO (.str i) (.str j) st = if i.length + j.length ≤ LIM then some (.str (i ++ j), st) else none := rfl
@[simp] theorem negO_int {i : Int} : negO (.int i) st = some (.int (-i), st) := rfl
@[simp] theorem eqO_int {neg : Bool} {i j : Int} : eqO neg (.int i) (.int j) st = some (.bl (decide (i = j) != neg), st) := rfl
@[simp] theorem eqO_str {neg : Bool} {i j : Str} : eqO neg (.str i) (.str j) st = some (.bl (decide (i = j) != neg), st) := rfl
@[simp] theorem eqO_bl {neg : Bool} {i j : Bool} : eqO neg (.bl i) (.bl j) st = some (.bl (decide (i = j) != neg), st) := rfl
@[simp] theorem isNO_non {neg : Bool} {x : D} : isNO neg x .non st = some (.bl (nonD x != neg), st) := isN_eq
@[simp] theorem nonD_non : nonD .non = true := rfl
@[simp] theorem nonD_bl {x : Bool} : nonD (.bl x) = false := rfl
@[simp] theorem nonD_int {x : Int} : nonD (.int x) = false := rfl
@[simp] theorem nonD_str {x : Str} : nonD (.str x) = false := rfl
@[simp] theorem nonD_tup {x : List D} : nonD (.tup x) = false := rfl
@[simp] theorem nonD_loc : nonD (.loc n) = false := rfl
@[simp] theorem truth_bl {x : Bool} : truth (.bl x) st = some x := rfl
@[simp] theorem truth_non : truth .non st = some false := rfl
@[simp] theorem truth_int {x : Int} : truth (.int x) st = some (x != 0) := rfl
@[simp] theorem truth_tup {xs : List D} : truth (.tup xs) st = some (!xs.isEmpty) := rfl
@[simp] theorem truth_loc : truth (.loc n) st = (getL st n).map fun xs => !xs.isEmpty := rfl
@[simp] theorem intOf_int {x : Int} : intOf [.int x] st = some (.int x, st) := rfl
theorem intOf_str {x : Str} {n : Int} (h : PySem.intText? x = some n) (hl : x.length ≤ 640) : intOf [.str x] st = some (.int n, st) := by
  show (match PySem.intText? x with
    | some n => if x.length ≤ 640 then some (D.int n, st) else none
    | none => none) = _
  rw [h]
  exact if_pos hl
@[simp] theorem intOf_bl {x : Bool} : intOf [.bl x] st = some (.int (if x then 1 else 0), st) := rfl
@[simp] theorem absO_int {x : Int} : absO [.int x] st = some (.int (if x < 0 then -x else x), st) := rfl
@[simp] theorem lenO_tup {xs : List D} : lenO [.tup xs] st = some (.int xs.length, st) := rfl
@[simp] theorem lenO_str {x : Str} : lenO [.str x] st = if x.length ≤ LIM then some (.int x.length, st) else none := rfl
@[simp] theorem lenO_loc : lenO [.loc n] st = (getL st n).map fun xs => (.int xs.length, st) := rfl
@[simp] theorem ixO_tup {xs : List D} {i : Int} : ixO (.tup xs) (.int i) st = (atI xs i).map fun d => (d, st) := rfl
@[simp] theorem ixO_loc {i : Int} : ixO (.loc n) (.int i) st = (match getL st n with
  | none => none
  | some xs => (atI xs i).map fun d => (d, st)) := rfl
@[simp] theorem ixO_str {x : Str} {i : Int} : ixO (.str x) (.int i) st = if x.length ≤ LIM then (atI x.cps.toList i).map fun c => (.str ⟨#[c]⟩, st) else none := rfl
@[simp] theorem isiO_non {T : String} : isiO T .non st = some (.bl false, st) := rfl
@[simp] theorem isiO_bl {T : String} {x : Bool} : isiO T (.bl x) st = some (.bl (T == "bool" || T == "int"), st) := rfl
@[simp] theorem isiO_int {T : String} {x : Int} : isiO T (.int x) st = some (.bl (T == "int"), st) := rfl
@[simp] theorem isiO_str {T : String} {x : Str} : isiO T (.str x) st = some (.bl (T == "str"), st) := rfl
@[simp] theorem isiO_tup {T : String} {x : List D} : isiO T (.tup x) st = some (.bl (T == "tuple"), st) := rfl
@[simp] theorem isiO_loc {T : String} : isiO T (.loc n) st = (getL st n).map fun _ => (.bl (T == "list"), st) := rfl
@[simp] theorem isTy_str {x : Str} : isTy "str" (.str x) st = true := rfl
@[simp] theorem isTy_list : isTy "list" (.loc n) st = (getL st n).isSome := rfl
@[simp] theorem appendO_eq {y : D} : appendO (.loc n) [y] st = (match getM st n with
  | none => none
  | some xs => if xs.length < LIM then some (.non, st.set n (.lst (xs ++ [y]))) else none) := rfl
@[simp] theorem tupleO_tup {xs : List D} : tupleO [.tup xs] st = some (.tup xs, st) := rfl
@[simp] theorem tupleO_loc : tupleO [.loc n] st = (getL st n).map fun xs => (.tup xs, st) := rfl
@[simp] theorem listO_tup {xs : List D} : listO [.tup xs] st = some (.loc st.length, st ++ [.lst xs]) := rfl
@[simp] theorem listO_loc : listO [.loc n] st = (getL st n).map fun xs => (.loc st.length, st ++ [.lst xs]) := rfl
@[simp] theorem cutO_tup {xs : List D} {lo hi : Option Int} : cutO (.tup xs) lo hi st = if nst (cutD xs lo hi) = true then none else some (.tup (cutD xs lo hi), st) := rfl
@[simp] theorem cutO_loc {lo hi : Option Int} : cutO (.loc n) lo hi st = (getL st n).map fun xs => (.loc st.length, st ++ [.lst (cutD xs lo hi)]) := rfl
@[simp] theorem cutO_str {x : Str} {lo hi : Option Int} : cutO (.str x) lo hi st = if x.length ≤ LIM then some (.str (cutS x lo hi), st) else none := rfl
end
/-! ### the store -/
section
variable {st st1 st2 : Sto} {n m : Nat} {xs ys : List D}
theorem getL_of (h : st[n]? = some (.lst xs)) : getL st n = some xs := by unfold getL; rw [h]
theorem getL_frz (h : st[n]? = some (.frz xs)) : getL st n = some xs := by unfold getL; rw [h]
theorem getM_of (h : st[n]? = some (.lst xs)) : getM st n = some xs := by unfold getM; rw [h]
theorem getL_eq (h : st2[n]? = st[n]?) : getL st2 n = getL st n := by unfold getL; rw [h]
/-- all but the list at b stands as it stood; there may be more -/
def Up (b : Nat) (st st2 : Sto) : Prop := st.length ≤ st2.length ∧ ∀ n, n ≠ b → n < st.length → st2[n]? = st[n]?
theorem Up.refl {b : Nat} : Up b st st := ⟨Nat.le_refl _, fun _ _ _ => rfl⟩
theorem Up.trans {b : Nat} (h : Up b st st1) (k : Up b st1 st2) : Up b st st2 := ⟨Nat.le_trans h.1 k.1, fun n h1 h2 => (k.2 n h1 (Nat.lt_of_lt_of_le h2 h.1)).trans (h.2 n h1 h2)⟩
theorem Up.app {b : Nat} (o : List OB) : Up b st (st ++ o) := ⟨by simp, fun n _ h => List.getElem?_append_left h⟩
theorem Up.set {b : Nat} (o : OB) : Up b st (st.set b o) := ⟨by simp, fun n h _ => List.getElem?_set_ne (Ne.symm h)⟩
theorem Up.getL {b : Nat} (h : Up b st st2) (hn : n ≠ b) (e : getL st n = some xs) : Iv.getL st2 n = some xs := by
  have hl : n < st.length := by
    unfold Iv.getL at e
    cases q : st[n]? with
    | none => rw [q] at e; cases e
    | some o => exact (List.getElem?_eq_some_iff.mp q).1
  rw [getL_eq (h.2 n hn hl)]
  exact e
theorem Up.at {b : Nat} (h : Up b st st2) (hn : n ≠ b) {o : OB} (e : st[n]? = some o) : st2[n]? = some o := (h.2 n hn (List.getElem?_eq_some_iff.mp e).1).trans e
theorem Up.new {b k : Nat} (h : Up b st st2) (hb : b < st.length) (hk : st.length ≤ k) {o : OB} : Up b st (st2.set k o) := ⟨by rw [List.length_set]; exact h.1, fun n h1 h2 => by rw [List.getElem?_set_ne (by omega)]; exact h.2 n h1 h2⟩
/-- nothing changes; there may be more -/
def Ext (st st2 : Sto) : Prop := st.length ≤ st2.length ∧ ∀ n, n < st.length → st2[n]? = st[n]?
theorem Ext.refl : Ext st st := ⟨Nat.le_refl _, fun _ _ => rfl⟩
theorem Ext.trans (h : Ext st st1) (k : Ext st1 st2) : Ext st st2 := ⟨Nat.le_trans h.1 k.1, fun n h2 => (k.2 n (Nat.lt_of_lt_of_le h2 h.1)).trans (h.2 n h2)⟩
theorem Ext.app (o : List OB) : Ext st (st ++ o) := ⟨by simp, fun n h => List.getElem?_append_left h⟩
theorem Ext.up {b : Nat} (h : Ext st st2) : Up b st st2 := ⟨h.1, fun n _ h2 => h.2 n h2⟩
theorem Ext.at (h : Ext st st2) {o : OB} (e : st[n]? = some o) : st2[n]? = some o := (h.2 n (List.getElem?_eq_some_iff.mp e).1).trans e
theorem Ext.getL (h : Ext st st2) (e : getL st n = some xs) : Iv.getL st2 n = some xs := by
  have hl : n < st.length := by
    unfold Iv.getL at e
    cases q : st[n]? with
    | none => rw [q] at e; cases e
    | some o => exact (List.getElem?_eq_some_iff.mp q).1
  rw [getL_eq (h.2 n hl)]
  exact e
theorem Ext.set {k : Nat} (h : Ext st st2) (hk : st.length ≤ k) {o : OB} : Ext st (st2.set k o) := ⟨by rw [List.length_set]; exact h.1, fun n h2 => by rw [List.getElem?_set_ne (by omega)]; exact h.2 n h2⟩
end
/-! ### loops -/
section
variable {g : Tg} {b : SS} {xs : List D}
/-- over a fixed row: P by the turn; a turn may leave -/
theorem for_cns (P : Nat → Sl → Sto → Prop) (QB : Sl → Sto → Prop) (QR : D → Sto → Prop)
    (h : ∀ (i : Nat) (σ : Sl) (st : Sto) (d : D), xs[i]? = some d → P i σ st → ∃ σ1 r st2, g d σ = some σ1 ∧ b σ1 st = some (r, st2) ∧ match r with
      | .nx σ2 => P (i + 1) σ2 st2
      | .cnt σ2 => P (i + 1) σ2 st2
      | .brk σ2 => QB σ2 st2
      | .ret d => QR d st2) :
    ∀ (m i : Nat) (σ : Sl) (st : Sto), P i σ st → i ≤ xs.length → xs.length - i < m → ∃ r st2, forV (.cns xs) g b m i σ st = some (r, st2) ∧ match r with
      | .nx σ2 => P xs.length σ2 st2 ∨ QB σ2 st2
      | .ret d => QR d st2
      | _ => False
  | 0, i, σ, st, p, hi, hm => by omega
  | m + 1, i, σ, st, p, hi, hm => by
    unfold forV
    simp only [items_cns]
    cases e : xs[i]? with
    | none =>
      have e2 : i = xs.length := by
        have := List.getElem?_eq_none_iff.mp e
        omega
      subst e2
      exact ⟨.nx σ, st, rfl, .inl p⟩
    | some d =>
      obtain ⟨σ1, r, st2, h1, h2, h3⟩ := h i σ st d e p
      have hlt := (List.getElem?_eq_some_iff.mp e).1
      simp only [h1, h2]
      cases r with
      | nx σ2 => exact for_cns P QB QR h m (i + 1) σ2 st2 h3 (by omega) (by omega)
      | cnt σ2 => exact for_cns P QB QR h m (i + 1) σ2 st2 h3 (by omega) (by omega)
      | brk σ2 => exact ⟨.nx σ2, st2, rfl, .inr h3⟩
      | ret d => exact ⟨.ret d, st2, rfl, h3⟩
/-- .. where no turn leaves -/
theorem for_all (P : Nat → Sl → Sto → Prop)
    (h : ∀ (i : Nat) (σ : Sl) (st : Sto) (d : D), xs[i]? = some d → P i σ st → ∃ σ1 σ2 st2, g d σ = some σ1 ∧ b σ1 st = some (.nx σ2, st2) ∧ P (i + 1) σ2 st2)
    {m : Nat} {σ : Sl} {st : Sto} (p : P 0 σ st) (hm : xs.length < m) : ∃ σ2 st2, forV (.cns xs) g b m 0 σ st = some (.nx σ2, st2) ∧ P xs.length σ2 st2 := by
  obtain ⟨r, st2, h1, h2⟩ := for_cns P (fun _ _ => False) (fun _ _ => False) (fun i σ st d e p => by
    obtain ⟨σ1, σ2, st2, h1, h2, h3⟩ := h i σ st d e p
    exact ⟨σ1, .nx σ2, st2, h1, h2, h3⟩) m 0 σ st p (Nat.zero_le _) (by omega)
  cases r with
  | nx σ2 => exact ⟨σ2, st2, h1, h2.resolve_right id⟩
  | brk _ => exact h2.elim
  | cnt _ => exact h2.elim
  | ret _ => exact h2.elim
/-- over a list that stays -/
theorem for_lst {n : Nat} (P : Nat → Sl → Sto → Prop) (QB : Sl → Sto → Prop) (QR : D → Sto → Prop) (hg : ∀ i σ st, P i σ st → getL st n = some xs)
    (h : ∀ (i : Nat) (σ : Sl) (st : Sto) (d : D), xs[i]? = some d → P i σ st → ∃ σ1 r st2, g d σ = some σ1 ∧ b σ1 st = some (r, st2) ∧ match r with
      | .nx σ2 => P (i + 1) σ2 st2
      | .cnt σ2 => P (i + 1) σ2 st2
      | .brk σ2 => QB σ2 st2
      | .ret d => QR d st2) :
    ∀ (m i : Nat) (σ : Sl) (st : Sto), P i σ st → i ≤ xs.length → xs.length - i < m → ∃ r st2, forV (.lst n) g b m i σ st = some (r, st2) ∧ match r with
      | .nx σ2 => P xs.length σ2 st2 ∨ QB σ2 st2
      | .ret d => QR d st2
      | _ => False
  | 0, i, σ, st, p, hi, hm => by omega
  | m + 1, i, σ, st, p, hi, hm => by
    unfold forV
    simp only [items_lst, hg i σ st p]
    cases e : xs[i]? with
    | none =>
      have e2 : i = xs.length := by
        have := List.getElem?_eq_none_iff.mp e
        omega
      subst e2
      exact ⟨.nx σ, st, rfl, .inl p⟩
    | some d =>
      obtain ⟨σ1, r, st2, h1, h2, h3⟩ := h i σ st d e p
      have hlt := (List.getElem?_eq_some_iff.mp e).1
      simp only [h1, h2]
      cases r with
      | nx σ2 => exact for_lst P QB QR hg h m (i + 1) σ2 st2 h3 (by omega) (by omega)
      | cnt σ2 => exact for_lst P QB QR hg h m (i + 1) σ2 st2 h3 (by omega) (by omega)
      | brk σ2 => exact ⟨.nx σ2, st2, rfl, .inr h3⟩
      | ret d => exact ⟨.ret d, st2, rfl, h3⟩
theorem for_lst_all {n : Nat} (P : Nat → Sl → Sto → Prop) (hg : ∀ i σ st, P i σ st → getL st n = some xs)
    (h : ∀ (i : Nat) (σ : Sl) (st : Sto) (d : D), xs[i]? = some d → P i σ st → ∃ σ1 σ2 st2, g d σ = some σ1 ∧ b σ1 st = some (.nx σ2, st2) ∧ P (i + 1) σ2 st2)
    {m : Nat} {σ : Sl} {st : Sto} (p : P 0 σ st) (hm : xs.length < m) : ∃ σ2 st2, forV (.lst n) g b m 0 σ st = some (.nx σ2, st2) ∧ P xs.length σ2 st2 := by
  obtain ⟨r, st2, h1, h2⟩ := for_lst P (fun _ _ => False) (fun _ _ => False) hg (fun i σ st d e p => by
    obtain ⟨σ1, σ2, st2, h1, h2, h3⟩ := h i σ st d e p
    exact ⟨σ1, .nx σ2, st2, h1, h2, h3⟩) m 0 σ st p (Nat.zero_le _) (by omega)
  cases r with
  | nx σ2 => exact ⟨σ2, st2, h1, h2.resolve_right id⟩
  | brk _ => exact h2.elim
  | cnt _ => exact h2.elim
  | ret _ => exact h2.elim
theorem rngD_len {lo : Int} {n : Nat} : (rngD lo n).length = n := by simp [rngD]
theorem rngD_get {lo : Int} {n i : Nat} {d : D} (h : (rngD lo n)[i]? = some d) : i < n ∧ d = .int (lo + (i : Nat)) := by
  have hi := (List.getElem?_eq_some_iff.mp h).1
  rw [rngD_len] at hi
  unfold rngD at h
  rw [List.getElem?_map, List.getElem?_range hi] at h
  exact ⟨hi, (Option.some.inj h).symm⟩
/-- while: an invariant and a number that falls -/
theorem whl_inv {c : ST} (P : Sl → Sto → Prop) (μ : Sl → Sto → Nat) (Q : R → Sto → Prop)
    (h : ∀ σ st, P σ st → ∃ t st1, c σ st = some (t, st1) ∧ if t = true then ∃ r st2, b σ st1 = some (r, st2) ∧ match r with
      | .nx σ2 => P σ2 st2 ∧ μ σ2 st2 < μ σ st
      | .cnt σ2 => P σ2 st2 ∧ μ σ2 st2 < μ σ st
      | .brk σ2 => Q (.nx σ2) st2
      | .ret d => Q (.ret d) st2 else Q (.nx σ) st1) :
    ∀ (m : Nat) (σ : Sl) (st : Sto), P σ st → μ σ st < m → ∃ r st2, whlV c b m σ st = some (r, st2) ∧ Q r st2
  | 0, σ, st, p, hm => by omega
  | m + 1, σ, st, p, hm => by
    obtain ⟨t, st1, h1, h2⟩ := h σ st p
    unfold whlV
    simp only [h1, bnd_some]
    cases t with
    | false => exact ⟨.nx σ, st1, rfl, h2⟩
    | true =>
      simp only [if_pos] at h2 ⊢
      obtain ⟨r, st2, h3, h4⟩ := h2
      simp only [h3]
      cases r with
      | nx σ2 => exact whl_inv P μ Q h m σ2 st2 h4.1 (by omega)
      | cnt σ2 => exact whl_inv P μ Q h m σ2 st2 h4.1 (by omega)
      | brk σ2 => exact ⟨.nx σ2, st2, rfl, h4⟩
      | ret d => exact ⟨.ret d, st2, rfl, h4⟩
end
end Iv

namespace Iv
open PySem L2 PySem.Spec
section
variable {X : Cx} {K : PySem.W.Frag} {ww : World}
/-! ### T.index(e), T a written tuple of texts -/
def idxS : List Str → Str → Option Nat
  | [], _ => none
  | y :: ys, z => if y = z then some 0 else (idxS ys z).map (· + 1)
theorem idxS_ok : ∀ {ys : List Str} {z : Str} {j : Nat}, idxS ys z = some j → ys[j]? = some z ∧ ∀ m, m < j → ys[m]? ≠ some z
  | [], z, j, h => by cases h
  | y :: ys, z, j, h => by
    unfold idxS at h
    by_cases e : y = z
    · rw [if_pos e] at h
      cases h
      exact ⟨by simp [e], fun m hm => absurd hm (Nat.not_lt_zero _)⟩
    · rw [if_neg e] at h
      cases e2 : idxS ys z with
      | none => rw [e2] at h; cases h
      | some i =>
        rw [e2] at h
        cases h
        obtain ⟨h1, h2⟩ := idxS_ok e2
        refine ⟨by simpa using h1, fun m hm => ?_⟩
        have hm' : m < i + 1 := hm
        cases m with
        | zero => simpa using e
        | succ m => simpa using h2 m (by omega)
def ConT (K : PySem.W.Frag) (mg : Str → Option Value) (x : Str) (d : D) : Prop := ∃ p ds, d = .tup ds ∧ mg x = some (.ref p) ∧ (∃ o, K.lookup p = some o ∧ o.cls = .type "tuple" ∧ o.dict = none) ∧ ∀ H μ, Rep K H μ d (.ref p)
def indexC (d : D) : OpN := fun ys st => match d, ys with
  | .tup xs, [.str z] => match strsD xs with
    | none => none
    | some zs => match idxS zs z with
      | none => none
      | some j => some (.int (j : Nat), st)
  | _, _ => none
theorem strs_of {H : Hp} {μ : List Addr} : ∀ {xs : List D} {vs : List V} {bs : List Str}, Reps K H μ xs vs → strsD xs = some bs → vs = bs.map V.str
  | [], vs, bs, r, h => by simp only [Reps] at r; cases h; exact r
  | x :: xs, vs, bs, r, h => by
    simp only [Reps] at r
    obtain ⟨v, ws, rfl, r1, r2⟩ := r
    cases x with
    | str b =>
      simp only [strsD] at h
      cases e : strsD xs with
      | none => rw [e] at h; cases h
      | some cs =>
        rw [e] at h
        cases h
        simp only [Rep] at r1
        rw [r1, strs_of r2 e]
        rfl
    | _ => cases h
theorem e_indexC {x : Str} {d : D} {p : Pos} {e : Expr} {apos cpos : Pos} {g : SA} (C : ConT X.K X.mg x d) (hg : Gl X x) (ha : PA X [e] (rdA X.K X.w g))
    (hbase : attributeBase (.Name x p) "index" X.env (eval (.Name x p) X.env) = eval (.Name x p) X.env := by rfl)
    (hfew : ((backTo cpos (starEach [e] X.env)).all (fun x => !x.1) && (backToKw cpos (keywordEach [] X.env)).all (fun x => x.1.isSome)
      && decide ([e].length + ([] : List Keyword).length + (if ([] : List Keyword).isEmpty then 0 else 1) < 30)) = true := by rfl)
    (hline : (apos.endLine == cpos.line) = true := by rfl) (hs : starEach [e] X.env = (false, eval e X.env) :: starEach [] X.env := by rfl) (hd : (x == ("__debug__" : Str)) = false := by decide) :
    PE X (.Call (.Attribute (.Name x p) "index" apos) [e] [] cpos) (rdE X.K X.w (appF (indexC d) g)) := by
  obtain ⟨a, ds, rfl, hm, hk, hr⟩ := C
  refine (pe_bm PySem.F.plainAttrs_tuple PySem.F.slot_tuple_index PySem.F.type_tuple_index mt_tup_index (pe_glob (v := .ref a) hg hm rfl hd) ha hbase hfew hline hs rfl).weak fun τ H Q ⟨μ, st, σ, d', st', gd, er, hv, k⟩ => ?_
  refine ⟨.inr (.inl ⟨rfl, hk⟩), ?_⟩
  obtain ⟨ys, s1, h1, hv⟩ := bnd_eq hv
  refine ⟨μ, st, σ, ys, s1, gd, er, h1, fun μ1 H1 vs g1 d1 r1 => ?_⟩
  unfold indexC at hv
  split at hv
  · rename_i xs z e1
    cases e1
    split at hv
    · cases hv
    · rename_i zs e2
      split at hv
      · cases hv
      · rename_i j e3
        cases hv
        obtain ⟨v, rfl, rv⟩ := reps1 r1
        simp only [Rep] at rv
        have hr1 := hr H1 μ1
        simp only [Rep] at hr1
        obtain ⟨p1, ws, e4, ⟨s, _⟩, rs⟩ := hr1
        cases e4
        obtain ⟨q1, q2⟩ := idxS_ok e3
        exact ⟨a, zs, z, j, rfl, by rw [rv], by rw [← strs_of rs e2]; exact s, q1, q2, k μ1 H1 _ g1 d1 (by simp only [Rep])⟩
  · cases hv
theorem conT_mk {h : Heap} {mg : Str → Option Value} {x : Str} {p : Addr} {ds : List D} {its : Array Value} {n : Nat} {sl : Array (Option Value)} (X : K.In h) (G : h.Ns mainGlobals mg) (a : PySem.W.nsIn K mainGlobals x = some (some (.ref p))) (l : K.lookup p = some ⟨.type "tuple", none, .seq its n, sl⟩) (z : its.size ≤ 1000) (c : CVs K its.toList ds) : ConT K mg x (.tup ds) := by
  obtain ⟨vs, r, q⟩ := cvs_ok c
  exact ⟨p, ds, rfl, PySem.W.mg_of X G a, ⟨_, l, rfl, rfl⟩, fun H μ => rep_tup (.inr ⟨_, _, _, l, rfl, rfl, Nat.le_trans z (by rw [sizeLine_eq]; decide), r⟩) (fun _ => .inr ⟨_, l, rfl, rfl⟩) (q H μ)⟩
end
end Iv

namespace Iv
open PySem L2
theorem cMul_r {i j : Int} (h : (decide (-18446744073709551616 < j) && decide (j < 18446744073709551616)) = true) : cMul i j = true := by
  have h2 : (decide (-(2 ^ 64) < j) && decide (j < 2 ^ 64)) = true := h
  unfold cMul
  rw [h2, Bool.or_true]
theorem cMul_l {i j : Int} (h : (decide (-18446744073709551616 < i) && decide (i < 18446744073709551616)) = true) : cMul i j = true := by
  have h2 : (decide (-(2 ^ 64) < i) && decide (i < 2 ^ 64)) = true := h
  unfold cMul
  rw [h2, Bool.true_or]
theorem small62 (k : Int) (h0 : 0 ≤ k) (h1 : k ≤ 1000000) : -(2 ^ 62) ≤ k ∧ k < 2 ^ 62 := by omega
theorem rng1_ok {g : SA} {σ : Sl} {st st1 : Sto} {k : Int} (h : g σ st = some ([.int k], st1)) (h0 : 0 ≤ k) (h1 : k ≤ 1000000) : rngI1 g σ st = some (.cns (rngD 0 k.toNat), st1) := by
  rw [rngI1_eq, h, bnd_some]
  exact if_pos (small62 k h0 h1)
theorem rng2_ok {g : SA} {σ : Sl} {st st1 : Sto} {i k : Int} (h : g σ st = some ([.int i, .int k], st1)) (h0 : 0 ≤ i) (h1 : i ≤ 1000000) (h2 : 0 ≤ k) (h3 : k ≤ 1000000) : rngI2 g σ st = some (.cns (rngD i (k - i).toNat), st1) := by
  rw [rngI2_eq, h, bnd_some]
  have a := small62 i h0 h1
  have b := small62 k h2 h3
  exact if_pos ⟨a.1, a.2, b.1, b.2⟩
theorem rng1_nat {g : SA} {σ : Sl} {st st1 : Sto} {n : Nat} (h : g σ st = some ([.int (n : Int)], st1)) (h1 : n ≤ LIM) : rngI1 g σ st = some (.cns (rngD 0 n), st1) := by
  have q : ∀ k : Int, k = (n : Int) → rngI1 g σ st = some (.cns (rngD 0 n), st1) := fun k hk => by
    have h1' : n ≤ 1000000 := h1
    have e := rng1_ok (k := k) (by rw [hk]; exact h) (by omega) (by omega)
    rw [e, hk, Int.toNat_natCast]
  exact q _ rfl
/-! ### written texts -/
theorem map_inj {α β : Type} {f : α → β} (hf : ∀ x y, f x = f y → x = y) : ∀ {l m : List α}, l.map f = m.map f → l = m
  | [], [], _ => rfl
  | [], _ :: _, h => by cases h
  | _ :: _, [], h => by cases h
  | x :: l, y :: m, h => by
    simp only [List.map_cons, List.cons.injEq] at h
    rw [hf x y h.1, map_inj hf h.2]
theorem ofs_codes (a : String) : (Str.ofString a).cps.toList = a.toList.map Char.toNat := by rw [Str.ofString_eq_toList]
theorem ofs_inj (a b : String) : (Str.ofString a = Str.ofString b) = (a = b) := by
  apply propext
  constructor
  · intro h
    have h2 := congrArg (fun s : Str => s.cps.toList) h
    simp only [ofs_codes] at h2
    have h3 := map_inj (fun x y e => Char.toNat_inj.mp e) h2
    exact String.toList_inj.mp h3
  · rintro rfl; rfl
/-! ### what a meaning comes to, with what is wanted of it -/
def Wp (x : Option (R × Sto)) (Q : R → Sto → Prop) : Prop := ∃ r st, x = some (r, st) ∧ Q r st
section
variable {σ σ1 σ2 : Sl} {st st1 st2 : Sto} {d : D} {f : SE} {c : ST} {a b : SS} {i n m : Nat} {r : R} {Q Q' : R → Sto → Prop} {g : Tg} {xs : List D}
theorem wp_ok {x : Option (R × Sto)} (h : x = some (r, st)) (q : Q r st) : Wp x Q := ⟨r, st, h, q⟩
theorem wp_mono {x : Option (R × Sto)} (h : Wp x Q) (k : ∀ r s, Q r s → Q' r s) : Wp x Q' := let ⟨r, s, e, q⟩ := h; ⟨r, s, e, k r s q⟩
theorem wp_seq (h : Wp (a σ st) fun r s => match r with
    | .nx σ' => Wp (b σ' s) Q
    | r => Q r s) : Wp (seqS a b σ st) Q := by
  obtain ⟨r, s, e, q⟩ := h
  unfold Wp
  rw [seqS_eq, e]
  cases r with
  | nx σ' => exact q
  | brk σ' => exact ⟨_, _, rfl, q⟩
  | cnt σ' => exact ⟨_, _, rfl, q⟩
  | ret d => exact ⟨_, _, rfl, q⟩
/-- a step that goes on -/
theorem wp_nx (h : a σ st = some (.nx σ1, st1)) (q : Wp (b σ1 st1) Q) : Wp (seqS a b σ st) Q := wp_seq ⟨_, _, h, q⟩
theorem wp_ret (h : f σ st = some (d, st1)) (q : Q (.ret d) st1) : Wp (retS f σ st) Q := ⟨_, _, by rw [retS_eq, h, bnd_some], q⟩
theorem wp_asg (h : f σ st = some (d, st1)) (h2 : g d σ = some σ1) (q : Q (.nx σ1) st1) : Wp (asgS g f σ st) Q := ⟨_, _, by rw [asgS_eq, h, bnd_some, h2]; rfl, q⟩
theorem wp_ex (h : f σ st = some (d, st1)) (q : Q (.nx σ) st1) : Wp (exS f σ st) Q := ⟨_, _, by rw [exS_eq, h, bnd_some], q⟩
theorem wp_skip (q : Q (.nx σ) st) : Wp (nxS σ st) Q := ⟨_, _, rfl, q⟩
theorem wp_if {t : Bool} (h : c σ st = some (t, st1)) (h1 : t = true → Wp (a σ st1) Q) (h2 : t = false → Wp (b σ st1) Q) : Wp (ifS c a b σ st) Q := by
  unfold Wp
  rw [ifS_eq, h, bnd_some]
  cases t with
  | true => exact h1 rfl
  | false => exact h2 rfl
theorem wp_for {i : SJ} (P : Nat → Sl → Sto → Prop) (hi : i σ st = some (.cns xs, st1)) (h0 : P 0 σ st1)
    (h : ∀ (j : Nat) (σ : Sl) (st : Sto) (d : D), xs[j]? = some d → P j σ st → ∃ σ1, g d σ = some σ1 ∧ Wp (b σ1 st) fun r s => match r with
      | .nx σ2 => P (j + 1) σ2 s
      | .cnt σ2 => P (j + 1) σ2 s
      | .brk σ2 => Q (.nx σ2) s
      | .ret d => Q (.ret d) s)
    (he : ∀ σ s, P xs.length σ s → Q (.nx σ) s) : Wp (forS i g b σ st) Q := by
  obtain ⟨r, s, e, q⟩ := for_cns (g := g) (b := b) P (fun σ s => Q (.nx σ) s) (fun d s => Q (.ret d) s) (fun j σ st d e p => by
    obtain ⟨σ1, h1, r, s, h2, h3⟩ := h j σ st d e p
    exact ⟨σ1, r, s, h1, h2, by cases r <;> exact h3⟩) (xs.length + 1) 0 σ st1 h0 (Nat.zero_le _) (by omega)
  refine ⟨r, s, by rw [forS_eq, hi, bnd_some]; exact e, ?_⟩
  cases r with
  | nx σ' => exact q.elim (he σ' s) id
  | ret d => exact q
  | brk σ' => exact q.elim
  | cnt σ' => exact q.elim
theorem wp_forL {i : SJ} (P : Nat → Sl → Sto → Prop) (hi : i σ st = some (.lst n, st1)) (hx : getL st1 n = some xs) (h0 : P 0 σ st1) (hg : ∀ j σ s, P j σ s → getL s n = some xs)
    (h : ∀ (j : Nat) (σ : Sl) (st : Sto) (d : D), xs[j]? = some d → P j σ st → ∃ σ1, g d σ = some σ1 ∧ Wp (b σ1 st) fun r s => match r with
      | .nx σ2 => P (j + 1) σ2 s
      | .cnt σ2 => P (j + 1) σ2 s
      | .brk σ2 => Q (.nx σ2) s
      | .ret d => Q (.ret d) s)
    (he : ∀ σ s, P xs.length σ s → Q (.nx σ) s) : Wp (forS i g b σ st) Q := by
  obtain ⟨r, s, e, q⟩ := for_lst (g := g) (b := b) (n := n) P (fun σ s => Q (.nx σ) s) (fun d s => Q (.ret d) s) hg (fun j σ st d e p => by
    obtain ⟨σ1, h1, r, s, h2, h3⟩ := h j σ st d e p
    exact ⟨σ1, r, s, h1, h2, by cases r <;> exact h3⟩) (xs.length + 1) 0 σ st1 h0 (Nat.zero_le _) (by omega)
  refine ⟨r, s, by rw [forS_eq, hi, bnd_some]; simp only [items_lst, hx]; exact e, ?_⟩
  cases r with
  | nx σ' => exact q.elim (he σ' s) id
  | ret d => exact q
  | brk σ' => exact q.elim
  | cnt σ' => exact q.elim
theorem wp_while {k : Nat} (P : Sl → Sto → Prop) (μ : Sl → Sto → Nat) (h0 : P σ st) (hk : μ σ st < k)
    (h : ∀ σ st, P σ st → ∃ t st1, c σ st = some (t, st1) ∧ (t = true → Wp (b σ st1) fun r s => match r with
      | .nx σ2 => P σ2 s ∧ μ σ2 s < μ σ st
      | .cnt σ2 => P σ2 s ∧ μ σ2 s < μ σ st
      | .brk σ2 => Q (.nx σ2) s
      | .ret d => Q (.ret d) s) ∧ (t = false → Q (.nx σ) st1)) : Wp (whlS k c b σ st) Q := by
  obtain ⟨r, s, e, q⟩ := whl_inv (c := c) (b := b) P μ Q (fun σ st p => by
    obtain ⟨t, s1, h1, h2, h3⟩ := h σ st p
    refine ⟨t, s1, h1, ?_⟩
    cases t with
    | true =>
      obtain ⟨r, s, h4, h5⟩ := h2 rfl
      exact ⟨r, s, h4, by cases r <;> exact h5⟩
    | false => exact h3 rfl) k σ st h0 hk
  exact ⟨r, s, e, q⟩
/-- a def's own end -/
theorem wp_run {ns np : Nat} {ds : List D} {Q : D → Sto → Prop} (hl : ds.length = np) (h : Wp (b (ds.map some ++ List.replicate (ns - np) none) st) fun r s => match r with
    | .nx _ => Q .non s
    | .ret d => Q d s
    | _ => False) : ∃ d s, runF ns np b ds st = some (d, s) ∧ Q d s := by
  obtain ⟨r, s, e, q⟩ := h
  rw [runF_eq, if_pos hl, e]
  cases r with
  | nx _ => exact ⟨_, _, rfl, q⟩
  | ret d => exact ⟨_, _, rfl, q⟩
  | brk _ => exact q.elim
  | cnt _ => exact q.elim
end
end Iv

namespace Iv
open PySem L2 PySem.Spec
section
variable {X : Cx} {K : PySem.W.Frag} {ww : World}
/-! ### s.index(e), the sign is there -/
def sindexO : OpM := fun x ys st => match x, ys with
  | .str a, [.str b] => match Txt.index0 a b with
    | some k => some (.int (k : Nat), st)
    | none => none
  | _, _ => none
@[simp] theorem sindexO_eq {a b : Str} {st : Sto} : sindexO (.str a) [.str b] st = (match Txt.index0 a b with
    | some k => some (.int (k : Nat), st)
    | none => none) := rfl
theorem e_sindex {o e : Expr} {apos cpos : Pos} {f : SE} {g : SA} (hc : X.calm = true) (ho : PE X o (rdE X.K X.w f)) (ha : PA X [e] (rdA X.K X.w g))
    (hbase : attributeBase o "index" X.env (eval o X.env) = eval o X.env := by rfl)
    (hfew : ((backTo cpos (starEach [e] X.env)).all (fun x => !x.1) && (backToKw cpos (keywordEach [] X.env)).all (fun x => x.1.isSome)
      && decide ([e].length + ([] : List Keyword).length + (if ([] : List Keyword).isEmpty then 0 else 1) < 30)) = true := by rfl)
    (hline : (apos.endLine == cpos.line) = true := by rfl) (hs : starEach [e] X.env = (false, eval e X.env) :: starEach [] X.env := by rfl) :
    PE X (.Call (.Attribute o "index" apos) [e] [] cpos) (rdE X.K X.w (bmF "str" sindexO f g)) :=
  (pe_bmS PySem.F.plainAttrs_str PySem.F.slot_str_index PySem.F.type_str_index (mt_indexX (W := fun _ _ _ _ => False) hc (fun u s' h => by
    obtain ⟨_, _, _, _, _, _, _, _, _, _, _, _, _, _, _, _, w⟩ := h
    exact w.elim)) ho ha hbase hfew hline hs rfl).weak fun τ H Q ⟨μ, st, σ, d, st', gd, er, hv, k⟩ => by
    obtain ⟨x, s1, h1, hv⟩ := bnd_eq hv
    split at hv
    · rename_i ht
      obtain ⟨xs, s2, h2, hv⟩ := bnd_eq hv
      refine ⟨μ, st, σ, x, s1, gd, er, h1, fun μ1 H1 v g1 d1 r1 => ⟨ty_of d1 r1 ht, ?_⟩⟩
      refine ⟨μ1, s1, σ, xs, s2, d1, er.m g1, h2, fun μ2 H2 vs g2 d2 r2 => ?_⟩
      cases x with
      | str a =>
        cases xs with
        | nil => cases hv
        | cons y ys =>
          cases ys with
          | cons _ _ => cases y <;> cases hv
          | nil =>
            cases y with
            | str b =>
              rw [sindexO_eq] at hv
              split at hv
              · rename_i j e1
                cases hv
                obtain ⟨w, rfl, rw'⟩ := reps1 r2
                simp only [Rep] at r1 rw'
                subst r1 rw'
                refine ⟨a, b, rfl, rfl, fun k' e2 => ?_, fun e2 => ?_⟩
                · rw [e1] at e2
                  cases e2
                  exact k μ2 H2 _ (g1.trans g2) d2 (by simp only [Rep])
                · rw [e1] at e2
                  cases e2
              · cases hv
            | _ => cases hv
      | _ => cases hv
    · cases hv
end
end Iv

namespace Iv
open PySem L2
/-! ### comprehensions: each item's own value, in order -/
theorem comp_loop {J : It} {g : Tg} {e : SE} {σ0 : Sl} {st1 : Sto} {xs ys : List D} {n : Nat} (hn : st1.length ≤ n) (hz : xs.length ≤ LIM) (hy : ys.length = xs.length) (hJ : ∀ s, Ext st1 s → items J s = some xs)
    (h : ∀ (i : Nat) (x y : D), xs[i]? = some x → ys[i]? = some y → ∀ st, Ext st1 st → ∃ σ1 st2, g x σ0 = some σ1 ∧ e σ1 st = some (y, st2) ∧ Ext st st2) :
    ∀ (m i : Nat) (s : Sto), Ext st1 s → s[n]? = some (.lst (ys.take i)) → i ≤ xs.length → xs.length - i < m → ∃ s2, compV J g yesT e n σ0 m i s = some s2 ∧ Ext st1 s2 ∧ s2[n]? = some (.lst ys)
  | 0, i, s, _, _, _, hm => by omega
  | m + 1, i, s, hs, ha, hi, hm => by
    unfold compV
    simp only [hJ s hs]
    cases ex : xs[i]? with
    | none =>
      have e2 : i = xs.length := by
        have := List.getElem?_eq_none_iff.mp ex
        omega
      subst e2
      rw [← hy, List.take_length] at ha
      exact ⟨s, rfl, hs, ha⟩
    | some x =>
      have hlt := (List.getElem?_eq_some_iff.mp ex).1
      have ey : ys[i]? = some (ys[i]'(by omega)) := List.getElem?_eq_getElem (by omega)
      obtain ⟨σ1, s2, e1, e2, x2⟩ := h i x _ ex ey s hs
      have ga : getM s2 n = some (ys.take i) := getM_of (x2.at ha)
      have hl : (ys.take i).length < LIM := by
        rw [List.length_take]
        exact Nat.lt_of_lt_of_le (by omega) hz
      have hs2 := hs.trans x2
      have hn2 : n < s2.length := by
        obtain ⟨q, _⟩ := List.getElem?_eq_some_iff.mp (x2.at ha)
        exact q
      simp only [e1, yesT, bnd_some, if_true, e2, ga, hl]
      refine comp_loop hn hz hy hJ h m (i + 1) _ (hs2.set hn) ?_ hlt (by omega)
      rw [List.getElem?_set_self hn2, List.take_add_one, ey]
      rfl
theorem comp_ok {vs : List Nat} {i : SJ} {g : Tg} {e : SE} {σ : Sl} {st st1 : Sto} {J : It} {xs : List D} (ys : List D) (hi : i σ st = some (J, st1)) (hz : xs.length ≤ LIM) (hy : ys.length = xs.length) (hJ : ∀ s, Ext st1 s → items J s = some xs)
    (h : ∀ (i : Nat) (x y : D), xs[i]? = some x → ys[i]? = some y → ∀ st, Ext st1 st → ∃ σ1 st2, g x (wipeD σ vs) = some σ1 ∧ e σ1 st = some (y, st2) ∧ Ext st st2) :
    ∃ s2, compF vs i g yesT e σ st = some (.loc st1.length, s2) ∧ Ext st1 s2 ∧ s2[st1.length]? = some (.lst ys) := by
  obtain ⟨s2, e2, x2, g2⟩ := comp_loop (n := st1.length) (σ0 := wipeD σ vs) (Nat.le_refl _) hz hy hJ h (xs.length + 1) 0 (st1 ++ [.lst []]) (Ext.app _) (by simp) (Nat.zero_le _) (by omega)
  refine ⟨s2, ?_, x2, g2⟩
  unfold compF
  simp only [hi, bnd_some, hJ st1 Ext.refl, e2, Option.map_some]
end Iv

namespace Iv
open PySem L2 PySem.Spec
section
variable {X : Cx} {K : PySem.W.Frag} {ww : World}
/-! ### s * n for n up to 1 -/
def smulO : Op2
  | .str a, .int n, st => if n = 1 then some (.str a, st) else if n < 1 ∧ -1000000 < n then some (.str Str.empty, st) else none
  | _, _, _ => none
@[simp] theorem smulO_eq {a : Str} {n : Int} {st : Sto} : smulO (.str a) (.int n) st = if n = 1 then some (.str a, st) else if n < 1 ∧ -1000000 < n then some (.str Str.empty, st) else none := rfl
def rSmul : R2 := fun x y H Q => ∃ a n, x = V.str a ∧ y = .int n ∧ ((n = 1 ∧ Q (.str a) H) ∨ (n < 1 ∧ -1000000 < n ∧ Q (.str Str.empty) H))
theorem op_smul : OpR X (binaryOp .Mult) rSmul := by
  intro pins s σ H x y v u Q I rx ry h
  obtain ⟨a, n, rfl, rfl, h⟩ := h
  obtain ⟨t, rfl⟩ := rx
  obtain ⟨t', rfl⟩ := ry
  rcases h with ⟨rfl, q⟩ | ⟨h1, h2, q⟩
  · refine PySem.P.mul_str (by decide) (fun _ h => by cases h) (fun _ h => by cases h) ?_
    exact ⟨.str a, H, I, ⟨t, rfl⟩, q⟩
  · exact PySem.P.mul_str_none h1 (by omega) ⟨.str Str.empty, H, I.tok _, ⟨_, rfl⟩, q⟩
theorem ok_smul : Ok2 K ww rSmul smulO := by
  intro H μ st x y vx vy d st' Q g rx ry hv k
  cases x with
  | str a =>
    cases y with
    | int n =>
      simp only [Rep] at rx ry
      subst rx ry
      rw [smulO_eq] at hv
      split at hv
      · rename_i h
        cases hv
        exact ⟨a, n, rfl, rfl, .inl ⟨h, here k g (by simp only [Rep])⟩⟩
      · split at hv
        · rename_i h
          cases hv
          exact ⟨a, n, rfl, rfl, .inr ⟨h.1, h.2, here k g (by simp only [Rep])⟩⟩
        · cases hv
    | _ => cases hv
  | _ => cases hv
theorem e_smul {a b : Expr} {f g : SE} {pos : Pos} (ha : PE X a (rdE X.K X.w f)) (hb : PE X b (rdE X.K X.w g)) : PE X (.BinOp a .Mult b pos) (rdE X.K X.w (binF smulO f g)) := se_bin op_smul ok_smul ha hb
end
end Iv

namespace Iv
open PySem L2 PySem.Spec
/-! ### a dict of the module with text keys -/
inductive DVs (K : PySem.W.Frag) (P : Params) : List DictEntry → List (Str × D) → Prop
  | nil : DVs K P [] []
  | cons {h : Int} {x : Str} {t : Tok} {u : Value} {d : D} {es : List DictEntry} {kvs : List (Str × D)} (hh : h = PyData.keyHash P x) (hv : CV K u d) (r : DVs K P es kvs) : DVs K P (⟨h, .str x t, u⟩ :: es) ((x, d) :: kvs)
def lkp : List (Str × D) → Str → Option D
  | [], _ => none
  | (k, d) :: r, z => if (k == z) = true then some d else lkp r z
def ConD (K : PySem.W.Frag) (w : World) (mg : Str → Option Value) (x : Str) (kvs : List (Str × D)) : Prop := ∃ a es n, mg x = some (.ref a) ∧ KDict K w a es n ∧ DVs K w.params es.toList kvs
theorem dvs_lit {K : PySem.W.Frag} {P : Params} : ∀ {es : List DictEntry} {kvs : List (Str × D)}, DVs K P es kvs → PySem.W.KeysLit P es
  | _, _, .nil => trivial
  | _, _, .cons hh _ r => ⟨⟨_, _, rfl, hh⟩, dvs_lit r⟩
theorem dvs_find {K : PySem.W.Frag} {P : Params} (z : Str) : ∀ {es : List DictEntry} {kvs : List (Str × D)}, DVs K P es kvs →
    es.any (·.refKey) = false ∧ ((∃ d e, lkp kvs z = some d ∧ es.find? (·.key.isStr z) = some e ∧ CV K e.val d) ∨ (lkp kvs z = none ∧ es.find? (·.key.isStr z) = none))
  | _, _, .nil => ⟨rfl, .inr ⟨rfl, rfl⟩⟩
  | _, _, .cons (h := h) (x := x) (t := t) (u := u) (d := d) (es := es) (kvs := kvs) hh hv r => by
    obtain ⟨h1, h2⟩ := dvs_find z r
    refine ⟨by rw [List.any_cons, h1]; rfl, ?_⟩
    by_cases q : (x == z) = true
    · exact .inl ⟨d, ⟨h, .str x t, u⟩, by unfold lkp; rw [if_pos q], by
        rw [List.find?_cons]
        have : (DictEntry.mk h (.str x t) u).key.isStr z = true := q
        rw [this], hv⟩
    · have q' : (DictEntry.mk h (.str x t) u).key.isStr z = false := Bool.eq_false_iff.mpr q
      rcases h2 with ⟨d2, e2, a1, a2, a3⟩ | ⟨a1, a2⟩
      · exact .inl ⟨d2, e2, by unfold lkp; rw [if_neg q]; exact a1, by rw [List.find?_cons, q']; exact a2, a3⟩
      · exact .inr ⟨by unfold lkp; rw [if_neg q]; exact a1, by rw [List.find?_cons, q']; exact a2⟩
theorem dvs_ns {K : PySem.W.Frag} {w : World} {a : Addr} {es : Array DictEntry} {n : Nat} {kvs : List (Str × D)} (D' : KDict K w a es n) (h : DVs K w.params es.toList kvs) (z : Str) :
    (∃ d u, lkp kvs z = some d ∧ PySem.W.nsIn K a z = some (some u) ∧ CV K u d) ∨ (lkp kvs z = none ∧ PySem.W.nsIn K a z = some none) := by
  obtain ⟨h1, h2⟩ := dvs_find z h
  unfold PySem.W.nsIn
  rw [D'.at_]
  dsimp only
  rcases h2 with ⟨d, e, a1, a2, a3⟩ | ⟨a1, a2⟩
  · exact .inl ⟨d, e.val, a1, by rw [a2], a3⟩
  · exact .inr ⟨a1, by rw [a2]; dsimp only; rw [h1]; rfl⟩
theorem conD_mk {h : Heap} {K : PySem.W.Frag} {w : World} {mg : Str → Option Value} {x : Str} {p : Addr} {es : Array DictEntry} {n : Nat} {kvs : List (Str × D)} (X : K.In h) (G : h.Ns mainGlobals mg) (a : PySem.W.nsIn K mainGlobals x = some (some (.ref p))) (l : K.lookup p = some ⟨.type "dict", none, .dict es n, #[]⟩) (z : (p == sysModules) = false) (c : DVs K w.params es.toList kvs) : ConD K w mg x kvs :=
  ⟨p, es, n, PySem.W.mg_of X G a, ⟨l, dvs_lit c, z⟩, c⟩
/-! ### k in NAME, NAME[k], NAME.get(k), NAME.get(k, d) -/
def dinO (kvs : List (Str × D)) (neg : Bool) : Op1 := fun x st => match x with
  | .str z => some (.bl ((lkp kvs z).isSome != neg), st)
  | _ => none
def ditO (kvs : List (Str × D)) : Op1 := fun x st => match x with
  | .str z => (lkp kvs z).map fun d => (d, st)
  | _ => none
def dgetO (kvs : List (Str × D)) : OpN := fun xs st => match xs with
  | [.str z] => some ((lkp kvs z).getD .non, st)
  | [.str z, d] => some ((lkp kvs z).getD d, st)
  | _ => none
@[simp] theorem dinO_str {kvs : List (Str × D)} {neg : Bool} {z : Str} {st : Sto} : dinO kvs neg (.str z) st = some (.bl ((lkp kvs z).isSome != neg), st) := rfl
@[simp] theorem ditO_str {kvs : List (Str × D)} {z : Str} {st : Sto} : ditO kvs (.str z) st = (lkp kvs z).map fun d => (d, st) := rfl
@[simp] theorem dgetO_1 {kvs : List (Str × D)} {z : Str} {st : Sto} : dgetO kvs [.str z] st = some ((lkp kvs z).getD .non, st) := rfl
@[simp] theorem dgetO_2 {kvs : List (Str × D)} {z : Str} {d : D} {st : Sto} : dgetO kvs [.str z, d] st = some ((lkp kvs z).getD d, st) := by cases d <;> rfl
section
variable {X : Cx} {x : Str} {kvs : List (Str × D)} {p pos : Pos} {e : Expr} {f : SE}
theorem e_din (C : ConD X.K X.w X.mg x kvs) (hg : Gl X x) (ha : PE X e (rdE X.K X.w f)) (hm : behindInMarks .In (.Name x p) = false := by first | exact nobehind _ (by decide) (by decide) | rfl) (hd : (x == ("__debug__" : Str)) = false := by decide) : PE X (.Compare e [.In] [.Name x p] pos) (rdE X.K X.w (unF (dinO kvs false) f)) := by
  obtain ⟨a, es, n, hx, D', dv⟩ := C
  refine (pe_cmpR (op_in_kd D') ha (pe_glob hg hx (v := .ref a) rfl hd) hm).weak ?_
  rintro τ H Q ⟨μ, st, σ, d, st', gd, er, hv, k⟩
  obtain ⟨y, s1, h1, hv⟩ := bnd_eq hv
  refine ⟨μ, st, σ, y, s1, gd, er, h1, fun μ1 H1 vx g1 d1 r1 => ?_⟩
  cases y with
  | str z =>
    simp only [Rep] at r1
    subst r1
    cases hv
    rcases dvs_ns D' dv z with ⟨d, u, a1, a2, _⟩ | ⟨a1, a2⟩
    · refine ⟨z, some u, rfl, rfl, a2, k μ1 H1 _ g1 d1 ?_⟩
      rw [a1]; simp only [Rep]; rfl
    · refine ⟨z, none, rfl, rfl, a2, k μ1 H1 _ g1 d1 ?_⟩
      rw [a1]; simp only [Rep]; rfl
  | _ => cases hv
theorem e_dnin (C : ConD X.K X.w X.mg x kvs) (hg : Gl X x) (ha : PE X e (rdE X.K X.w f)) (hm : behindInMarks .NotIn (.Name x p) = false := by first | exact nobehind _ (by decide) (by decide) | rfl) (hd : (x == ("__debug__" : Str)) = false := by decide) : PE X (.Compare e [.NotIn] [.Name x p] pos) (rdE X.K X.w (unF (dinO kvs true) f)) := by
  obtain ⟨a, es, n, hx, D', dv⟩ := C
  refine (pe_cmpR (op_notIn_kd D') ha (pe_glob hg hx (v := .ref a) rfl hd) hm).weak ?_
  rintro τ H Q ⟨μ, st, σ, d, st', gd, er, hv, k⟩
  obtain ⟨y, s1, h1, hv⟩ := bnd_eq hv
  refine ⟨μ, st, σ, y, s1, gd, er, h1, fun μ1 H1 vx g1 d1 r1 => ?_⟩
  cases y with
  | str z =>
    simp only [Rep] at r1
    subst r1
    cases hv
    rcases dvs_ns D' dv z with ⟨d, u, a1, a2, _⟩ | ⟨a1, a2⟩
    · refine ⟨z, some u, rfl, rfl, a2, k μ1 H1 _ g1 d1 ?_⟩
      rw [a1]; simp only [Rep]; rfl
    · refine ⟨z, none, rfl, rfl, a2, k μ1 H1 _ g1 d1 ?_⟩
      rw [a1]; simp only [Rep]; rfl
  | _ => cases hv
theorem t_din (C : ConD X.K X.w X.mg x kvs) (hg : Gl X x) (ha : PE X e (rdE X.K X.w f)) (hm : behindInMarks .In (.Name x p) = false := by first | exact nobehind _ (by decide) (by decide) | rfl) (hd : (x == ("__debug__" : Str)) = false := by decide) : PT X (.Compare e [.In] [.Name x p] pos) (rdT X.K X.w (truF (unF (dinO kvs false) f))) := by
  obtain ⟨a, es, n, hx, D', dv⟩ := C
  refine (pt_cmpR (op_in_kd D') ha (pe_glob hg hx (v := .ref a) rfl hd) hm).weak ?_
  rintro τ H Q ⟨μ, st, σ, b, st', gd, er, hv, k⟩
  obtain ⟨y0, s0, h0, hv⟩ := bnd_eq hv
  obtain ⟨y, s1, h1, h2⟩ := bnd_eq h0
  refine ⟨μ, st, σ, y, s1, gd, er, h1, fun μ1 H1 vx g1 d1 r1 => ?_⟩
  cases y with
  | str z =>
    simp only [Rep] at r1
    subst r1
    cases h2
    cases hv
    rcases dvs_ns D' dv z with ⟨d, u, a1, a2, _⟩ | ⟨a1, a2⟩
    · refine ⟨z, some u, rfl, rfl, a2, true, rfl, ?_⟩
      have := k μ1 H1 g1 d1
      rw [a1] at this; exact this
    · refine ⟨z, none, rfl, rfl, a2, false, rfl, ?_⟩
      have := k μ1 H1 g1 d1
      rw [a1] at this; exact this
  | _ => cases h2
theorem t_dnin (C : ConD X.K X.w X.mg x kvs) (hg : Gl X x) (ha : PE X e (rdE X.K X.w f)) (hm : behindInMarks .NotIn (.Name x p) = false := by first | exact nobehind _ (by decide) (by decide) | rfl) (hd : (x == ("__debug__" : Str)) = false := by decide) : PT X (.Compare e [.NotIn] [.Name x p] pos) (rdT X.K X.w (truF (unF (dinO kvs true) f))) := by
  obtain ⟨a, es, n, hx, D', dv⟩ := C
  refine (pt_cmpR (op_notIn_kd D') ha (pe_glob hg hx (v := .ref a) rfl hd) hm).weak ?_
  rintro τ H Q ⟨μ, st, σ, b, st', gd, er, hv, k⟩
  obtain ⟨y0, s0, h0, hv⟩ := bnd_eq hv
  obtain ⟨y, s1, h1, h2⟩ := bnd_eq h0
  refine ⟨μ, st, σ, y, s1, gd, er, h1, fun μ1 H1 vx g1 d1 r1 => ?_⟩
  cases y with
  | str z =>
    simp only [Rep] at r1
    subst r1
    cases h2
    cases hv
    rcases dvs_ns D' dv z with ⟨d, u, a1, a2, _⟩ | ⟨a1, a2⟩
    · refine ⟨z, some u, rfl, rfl, a2, false, rfl, ?_⟩
      have := k μ1 H1 g1 d1
      rw [a1] at this; exact this
    · refine ⟨z, none, rfl, rfl, a2, true, rfl, ?_⟩
      have := k μ1 H1 g1 d1
      rw [a1] at this; exact this
  | _ => cases h2
theorem e_dit (C : ConD X.K X.w X.mg x kvs) (hg : Gl X x) (ha : PE X e (rdE X.K X.w f)) (hs : PlainIx e := by exact fun _ _ => rfl) (hd : (x == ("__debug__" : Str)) = false := by decide) : PE X (.Subscript (.Name x p) e pos) (rdE X.K X.w (unF (ditO kvs) f)) := by
  obtain ⟨a, es, n, hx, D', dv⟩ := C
  refine (pe_ix ix_kdict (pe_glob hg hx (v := .ref a) rfl hd) ha hs).weak ?_
  rintro τ H Q ⟨μ, st, σ, d, st', gd, er, hv, k⟩
  obtain ⟨y, s1, h1, hv⟩ := bnd_eq hv
  refine ⟨μ, st, σ, y, s1, gd, er, h1, fun μ1 H1 vx g1 d1 r1 => ?_⟩
  cases y with
  | str z =>
    simp only [Rep] at r1
    subst r1
    rw [ditO_str] at hv
    rcases dvs_ns D' dv z with ⟨d2, u, a1, a2, c⟩ | ⟨a1, a2⟩
    · rw [a1] at hv
      cases hv
      obtain ⟨v, rv, rp⟩ := cv_ok c
      exact ⟨a, z, v, rfl, rfl, ⟨es, n, u, D'.at_, D'.lit, a2, rv⟩, k μ1 H1 v g1 d1 (rp H1 μ1)⟩
    · rw [a1] at hv; cases hv
  | _ => cases hv
/-- the call by values -/
theorem mt_dget {a : Addr} {es : Array DictEntry} {n : Nat} (D' : KDict X.K X.w a es n) : MtR X "dict.get" (fun x vs H Q => x = .ref a ∧ ∃ (z : Str) (r : Option Value), PySem.W.nsIn X.K a z = some r ∧
    ((vs = [.str z] ∧ ∃ v, (∀ u, r = some u → RelV v u) ∧ (r = none → v = .non) ∧ Q v H) ∨ (∃ dv v, vs = [.str z, dv] ∧ (∀ u, r = some u → RelV v u) ∧ (r = none → v = dv) ∧ Q v H))) := by
  intro pins s σ H x vs v us Q I rx rv h
  obtain ⟨rfl, z, r, e, h⟩ := h
  obtain rfl : v = Value.ref a := rx
  have hm := PySem.W.mapOf_K (prog := X.prog) (w := X.w) I.kIn D'.at_ D'.lit
  have hf := PySem.W.find_K D'.at_ e
  rcases h with ⟨rfl, v, h1, h2, q⟩ | ⟨dv, v, rfl, h1, h2, q⟩
  · obtain ⟨u, rfl, t, rfl⟩ := rv.one
    refine call_meetsIn PySem.F.slot_dict_get hm.typeIs PySem.F.entry_dict_get (PySem.F.args_dict_get_2 _ _) (meets_dict_get (knd := PySem.strKind X.prog X.w) (d := a) (k := z) (PySem.strKind_is X.prog X.w z t) D'.low) ⟨_, hm, ?_⟩
    show EP X pins σ Q _ _
    rw [hf]
    refine ⟨v, H, I.tok _, ?_, q⟩
    cases r with
    | none => rw [h2 rfl]; rfl
    | some u => exact h1 u rfl
  · obtain ⟨u, u2, rfl, ⟨t, rfl⟩, r2⟩ := rv.two
    refine call_meetsIn PySem.F.slot_dict_get hm.typeIs PySem.F.entry_dict_get (PySem.F.args_dict_get_3 _ _ _) (meets_dict_get_default (knd := PySem.strKind X.prog X.w) (d := a) (k := z) (PySem.strKind_is X.prog X.w z t) D'.low u2) ⟨_, hm, ?_⟩
    show EP X pins σ Q _ _
    rw [hf]
    refine ⟨v, H, I.tok _, ?_, q⟩
    cases r with
    | none => rw [h2 rfl]; exact r2
    | some u => exact h1 u rfl
theorem e_dget {es : List Expr} {apos : Pos} {g : SA} (C : ConD X.K X.w X.mg x kvs) (hg : Gl X x) (ha : PA X (e :: es) (rdA X.K X.w g)) (hd : (x == ("__debug__" : Str)) = false := by decide)
    (hbase : attributeBase (.Name x p) "get" X.env (eval (.Name x p) X.env) = eval (.Name x p) X.env := by rfl)
    (hfew : ((backTo pos (starEach (e :: es) X.env)).all (fun x => !x.1) && (backToKw pos (keywordEach [] X.env)).all (fun x => x.1.isSome)
      && decide ((e :: es).length + ([] : List Keyword).length + (if ([] : List Keyword).isEmpty then 0 else 1) < 30)) = true := by rfl)
    (hline : (apos.endLine == pos.line) = true := by rfl) (hs : starEach (e :: es) X.env = (false, eval e X.env) :: starEach es X.env := by rfl) (hplain : (backTo pos (starEach es X.env)).any (·.1) = false := by rfl) :
    PE X (.Call (.Attribute (.Name x p) "get" apos) (e :: es) [] pos) (rdE X.K X.w (appF (dgetO kvs) g)) := by
  obtain ⟨a, ents, n, hx, D', dv⟩ := C
  refine ⟨fun pins s σ H Q I h => ?_⟩
  refine wpAny_Call_method_late hbase hfew hline rfl (thn ((pe_glob hg hx (v := .ref a) rfl hd).run pins s σ H (fun x H1 => x = .ref a ∧ rdE X.K X.w (appF (dgetO kvs) g) σ H1 Q) I ⟨rfl, h⟩) fun v s1 ⟨x', H1, I1, r1, ex, q1⟩ => ?_)
  subst ex
  obtain rfl : v = Value.ref a := r1
  obtain ⟨μ, st, σ1, d, st', gd, er, hv, k⟩ := q1
  obtain ⟨xs, s3, h1, hv⟩ := bnd_eq hv
  refine ⟨"dict", "dict.get", PySem.F.plainAttrs_dict, PySem.F.slot_dict_get, PySem.F.type_dict_get, kd_type D' I1, ?_, ?_⟩
  · intro b eb
    cases eb
    exact ⟨_, I1.kIn _ _ D'.at_, rfl⟩
  have hA := ha.run pos pins s1 σ H1 (fun vs H2 => ∃ μ2, Gr H1 μ H2 μ2 ∧ Gd X.K X.w H2 μ2 s3 ∧ Reps X.K H2 μ2 xs vs) I1 ⟨μ, st, σ1, xs, s3, gd, er, h1, fun μ' H' vs g' d' r' => ⟨μ', g', d', r'⟩⟩
  rw [hs] at hA ⊢
  refine Calls.callWith_builtin (by show (false || (backTo pos (starEach es X.env)).any (·.1)) = false; rw [hplain] <;> rfl) (Calls.evalArgs_plain ?_)
  refine thn hA fun us s2 ⟨vs, H2, I2, r2, μ2, g2, gd2, rp⟩ => mt_dget D' pins s2 σ H2 (.ref a) vs (.ref a) us Q I2 rfl r2 ⟨rfl, ?_⟩
  unfold dgetO at hv
  split at hv
  · rename_i z _
    cases hv
    obtain ⟨v, rfl, rz⟩ := reps1 rp
    simp only [Rep] at rz
    subst rz
    rcases dvs_ns D' dv z with ⟨d2, u, a1, a2, c⟩ | ⟨a1, a2⟩
    · obtain ⟨v, rv, rpv⟩ := cv_ok c
      refine ⟨z, some u, a2, .inl ⟨rfl, v, (fun u' h => by cases h; exact rv), (fun h => by cases h), k μ2 H2 v g2 gd2 ?_⟩⟩
      rw [a1]; exact rpv H2 μ2
    · refine ⟨z, none, a2, .inl ⟨rfl, .non, (fun u' h => by cases h), (fun h => rfl), k μ2 H2 _ g2 gd2 ?_⟩⟩
      rw [a1]; simp only [Option.getD_none, Rep]
  · rename_i z dd _
    cases hv
    obtain ⟨v, v2, rfl, rz, rd⟩ := reps2 rp
    simp only [Rep] at rz
    subst rz
    rcases dvs_ns D' dv z with ⟨d2, u, a1, a2, c⟩ | ⟨a1, a2⟩
    · obtain ⟨v, rv, rpv⟩ := cv_ok c
      refine ⟨z, some u, a2, .inr ⟨v2, v, rfl, (fun u' h => by cases h; exact rv), (fun h => by cases h), k μ2 H2 v g2 gd2 ?_⟩⟩
      rw [a1]; exact rpv H2 μ2
    · refine ⟨z, none, a2, .inr ⟨v2, v2, rfl, (fun u' h => by cases h), (fun h => rfl), k μ2 H2 _ g2 gd2 ?_⟩⟩
      rw [a1]; exact rd
  · cases hv
end
end Iv

namespace Iv
open PySem L2 PySem.Spec
/-! ### f-strings of texts and ints, two parts or more -/
def fmtO : Op1 := fun x st => match x with
  | .str y => if y.length ≤ LIM then some (.str y, st) else none
  | .int i => if i.natAbs.log2 < 1920 then some (.str (toString i), st) else none
  | _ => none
def jsF : List SE → Str → Sl → Sto → Option (Str × Sto)
  | [], acc, _, st => some (acc, st)
  | f :: fs, acc, σ, st => bnd (f σ st) fun x st1 => match x with
    | .str y => if (acc ++ y).length ≤ LIM then jsF fs (acc ++ y) σ st1 else none
    | _ => none
def fstrF (fs : List SE) : SE := fun σ st => bnd (jsF fs Str.empty σ st) fun x st1 => some (.str x, st1)
theorem fstrF_eq {fs : List SE} {σ : Sl} {st : Sto} : fstrF fs σ st = bnd (jsF fs Str.empty σ st) fun x st1 => some (.str x, st1) := rfl
section
variable {K : PySem.W.Frag} {ww : World}
theorem js_rd : ∀ (fs : List SE) (acc : Str) (τ : St) (H : Hp) (Q : Str → Hp → Prop), (∃ μ st σ x st', Gd K ww H μ st ∧ EnvR K H μ σ τ ∧ jsF fs acc σ st = some (x, st') ∧ ∀ μ' H', Gr H μ H' μ' → Gd K ww H' μ' st' → Q x H') → tJs (fs.map (rdE K ww)) acc τ H Q
  | [], acc, τ, H, Q, ⟨μ, st, σ, x, st', gd, er, hv, k⟩ => by
    cases hv
    exact k μ H (Gr.refl H μ) gd
  | f :: fs, acc, τ, H, Q, ⟨μ, st, σ, x, st', gd, er, hv, k⟩ => by
    unfold jsF at hv
    obtain ⟨y, s1, h1, hv⟩ := bnd_eq hv
    refine ⟨μ, st, σ, y, s1, gd, er, h1, fun μ1 H1 v g1 d1 r1 => ?_⟩
    cases y with
    | str z =>
      simp only [Rep] at r1
      subst r1
      dsimp only at hv
      split at hv
      · rename_i hl
        exact ⟨z, rfl, lim_ok hl, js_rd fs (acc ++ z) τ H1 Q ⟨μ1, s1, σ, x, st', d1, er.m g1, hv, fun μ' H' g' d' => k μ' H' (g1.trans g') d'⟩⟩
      · cases hv
    | _ => cases hv
end
section
variable {X : Cx}
theorem sj_nil : PJ X [] (([] : List SE).map (rdE X.K X.w)) := .nil
theorem sj_cons {e : Expr} {es : List Expr} {f : SE} {fs : List SE} (h : PE X e (rdE X.K X.w f)) (r : PJ X es (fs.map (rdE X.K X.w))) : PJ X (e :: es) ((f :: fs).map (rdE X.K X.w)) := .cons h r
theorem e_fmt {e : Expr} {f : SE} {pos : Pos} (h : PE X e (rdE X.K X.w f)) : PE X (.FormattedValue e (-1) none pos) (rdE X.K X.w (unF fmtO f)) := (pe_fmt h).weak fun τ H Q ⟨μ, st, σ, d, st', gd, er, hv, k⟩ => by
  obtain ⟨y, s1, h1, hv⟩ := bnd_eq hv
  refine ⟨μ, st, σ, y, s1, gd, er, h1, fun μ1 H1 vx g1 d1 r1 => ?_⟩
  cases y with
  | str z =>
    simp only [Rep] at r1
    subst r1
    simp only [fmtO] at hv
    split at hv
    · rename_i hl
      cases hv
      exact .inl ⟨z, rfl, lim_ok hl, k μ1 H1 _ g1 d1 (by simp only [Rep])⟩
    · cases hv
  | int i =>
    simp only [Rep] at r1
    subst r1
    simp only [fmtO] at hv
    split at hv
    · rename_i hl
      cases hv
      exact .inr ⟨i, rfl, hl, k μ1 H1 _ g1 d1 (by simp only [Rep])⟩
    · cases hv
  | _ => cases hv
theorem e_fstr {v1 v2 : Expr} {rest : List Expr} {f1 f2 : SE} {fs : List SE} {pos : Pos} (h : PJ X (v1 :: v2 :: rest) ((f1 :: f2 :: fs).map (rdE X.K X.w))) : PE X (.JoinedStr (v1 :: v2 :: rest) pos) (rdE X.K X.w (fstrF (f1 :: f2 :: fs))) :=
  (pe_joined h).weak fun τ H Q ⟨μ, st, σ, d, st', gd, er, hv, k⟩ => by
    obtain ⟨y, s2, h1, hv⟩ := bnd_eq hv
    cases hv
    exact js_rd _ _ τ H _ ⟨μ, st, σ, y, _, gd, er, h1, fun μ' H' g' d' => k μ' H' _ g' d' (by simp only [Rep])⟩
end
end Iv

namespace Iv
open PySem L2 PySem.Spec
/-! ### l.pop() -/
def popO : OpM := fun x ys st => match x, ys with
  | .loc n, [] => match getM st n with
    | none => none
    | some xs => if xs.length ≤ LIM then (xs.getLast?).map fun d => (d, st.set n (.lst xs.dropLast)) else none
  | _, _ => none
@[simp] theorem popO_eq {n : Nat} {st : Sto} : popO (.loc n) [] st = (match getM st n with
    | none => none
    | some xs => if xs.length ≤ LIM then (xs.getLast?).map fun d => (d, st.set n (.lst xs.dropLast)) else none) := rfl
section
variable {X : Cx} {K : PySem.W.Frag} {ww : World}
theorem ok_pop : OkM K ww rPop popO := by
  intro H μ st x ys vx vs d st' Q g rx r hv k
  cases x with
  | loc n =>
    simp only [popO] at hv
    split at hv
    · rename_i n' e9
      cases e9
      split at hv
      · cases hv
      · rename_i xs e
        split at hv
        · rename_i hl
          cases hd : xs.getLast? with
          | none => rw [hd] at hv; cases hv
          | some y =>
            rw [hd] at hv
            cases hv
            simp only [Rep] at rx
            obtain ⟨p, rfl, hp⟩ := rx
            obtain rfl : vs = [] := by
              have := r.len
              cases vs with
              | nil => rfl
              | cons _ _ => cases this
            obtain ⟨ws, hH, rs⟩ := g.getM hp e
            rw [List.getLast?_eq_getElem?] at hd
            obtain ⟨v, hw, rv⟩ := rs.get hd
            have gw : Gr H μ (upd H p (.lst ws.dropLast)) μ := gr_write hH
            have rd : Reps K H μ xs.dropLast ws.dropLast := by
              rw [List.dropLast_eq_take, List.dropLast_eq_take, ← rs.len]
              exact rs.take _
            exact ⟨p, ws, v, rfl, rfl, hH, by rw [← rs.len]; exact hw, k μ _ _ gw (g.write hp (getM_get e) hH rd) (rv.m gw)⟩
        · cases hv
    · cases hv
  | _ => cases hv
theorem e_pop {o : Expr} {apos cpos : Pos} {f : SE} (ho : PE X o (rdE X.K X.w f)) (hbase : attributeBase o "pop" X.env (eval o X.env) = eval o X.env := by rfl) (hline : (apos.endLine == cpos.line) = true := by rfl) :
    PE X (.Call (.Attribute o "pop" apos) [] [] cpos) (rdE X.K X.w (bm0F "list" popO f)) :=
  se_bm0 PySem.F.plainAttrs_list PySem.F.slot_list_pop PySem.F.type_list_pop mt_pop ok_pop ho hbase hline
/-! ### l.extend(m) -/
theorem ok_extend : OkM K ww rExtend extendO := by
  intro H μ st x ys vx vs d st' Q g rx r hv k
  cases x with
  | loc n =>
    simp only [extendO] at hv
    split at hv
    · rename_i n' m e9
      cases e9
      split at hv
      · cases hv
      · split at hv
        · rename_i xs zs e1 e2
          split at hv
          · rename_i hl
            cases hv
            simp only [Rep] at rx
            obtain ⟨p, rfl, hp⟩ := rx
            obtain ⟨v, rfl, rv⟩ := reps1 r
            simp only [Rep] at rv
            obtain ⟨q, rfl, hq⟩ := rv
            obtain ⟨ws, hH, rs⟩ := g.getM hp e1
            obtain ⟨us, hH2, rs2⟩ := g.getM hq e2
            have gw : Gr H μ (upd H p (.lst (ws ++ us))) μ := gr_write hH
            exact ⟨p, q, ws, us, rfl, rfl, hH, hH2, lim_ok (by rw [← rs.len, ← rs2.len]; exact hl), k μ _ _ gw (g.write hp (getM_get e1) hH (rs.app rs2)) (by simp only [Rep])⟩
          · cases hv
        · cases hv
    · cases hv
  | _ => cases hv
theorem e_extend {o e : Expr} {apos cpos : Pos} {f : SE} {g : SA} (ho : PE X o (rdE X.K X.w f)) (ha : PA X [e] (rdA X.K X.w g))
    (hbase : attributeBase o "extend" X.env (eval o X.env) = eval o X.env := by rfl)
    (hfew : ((backTo cpos (starEach [e] X.env)).all (fun x => !x.1) && (backToKw cpos (keywordEach [] X.env)).all (fun x => x.1.isSome)
      && decide ([e].length + ([] : List Keyword).length + (if ([] : List Keyword).isEmpty then 0 else 1) < 30)) = true := by rfl)
    (hline : (apos.endLine == cpos.line) = true := by rfl) (hs : starEach [e] X.env = (false, eval e X.env) :: starEach [] X.env := by rfl) :
    PE X (.Call (.Attribute o "extend" apos) [e] [] cpos) (rdE X.K X.w (bmF "list" extendO f g)) :=
  se_bm PySem.F.plainAttrs_list PySem.F.slot_list_extend PySem.F.type_list_extend mt_extend ok_extend ho ha hbase hfew hline hs rfl
/-! ### a.split(b), a.split(), a.join(l) -/
theorem reps_strs {H : Hp} {μ : List Addr} : ∀ (ys : List Str), Reps K H μ (ys.map .str) (ys.map V.str)
  | [] => reps_nil
  | y :: ys => reps_cons (by simp only [Rep]) (reps_strs ys)
theorem strsD_eq : ∀ {xs : List D} {ys : List Str}, strsD xs = some ys → xs = ys.map .str
  | [], _, h => by cases h; rfl
  | .str b :: ds, ys, h => by
    unfold strsD at h
    cases e : strsD ds with
    | none => rw [e] at h; cases h
    | some bs =>
      rw [e] at h
      cases h
      rw [strsD_eq e]; rfl
  | .non :: _, _, h => by cases h
  | .bl _ :: _, _, h => by cases h
  | .int _ :: _, _, h => by cases h
  | .tup _ :: _, _, h => by cases h
  | .loc _ :: _, _, h => by cases h
theorem strs_reps {H : Hp} {μ : List Addr} : ∀ {ys : List Str} {vs : List V}, Reps K H μ (ys.map .str) vs → vs = ys.map V.str
  | [], _, h => by simp only [List.map_nil, Reps] at h; exact h
  | y :: ys, vs, h => by
    simp only [List.map_cons, Reps] at h
    obtain ⟨v, ws, rfl, h1, h2⟩ := h
    simp only [Rep] at h1
    rw [h1, strs_reps h2]; rfl
theorem ok_split : OkM K ww (fun x xs H Q => ∃ a b, x = .str a ∧ xs = [.str b] ∧ (b.length == 0) = false ∧ a.length + 2 ≤ sizeLine ∧ rNewStrs (Txt.split a b) H Q) splitO := by
  intro H μ st x ys vx vs d st' Q g rx r hv k
  unfold splitO at hv
  split at hv
  · rename_i a b
    split at hv
    · rename_i hl
      cases hv
      simp only [Rep] at rx
      subst rx
      obtain ⟨v, rfl, rv⟩ := reps1 r
      simp only [Rep] at rv
      subst rv
      exact ⟨a, b, rfl, rfl, hl.1, lim_ok hl.2, fun p hp => new_lst g (reps_strs _) k p hp⟩
    · cases hv
  · cases hv
theorem e_split {o e : Expr} {apos cpos : Pos} {f : SE} {g : SA} (ho : PE X o (rdE X.K X.w f)) (ha : PA X [e] (rdA X.K X.w g))
    (hbase : attributeBase o "split" X.env (eval o X.env) = eval o X.env := by rfl)
    (hfew : ((backTo cpos (starEach [e] X.env)).all (fun x => !x.1) && (backToKw cpos (keywordEach [] X.env)).all (fun x => x.1.isSome)
      && decide ([e].length + ([] : List Keyword).length + (if ([] : List Keyword).isEmpty then 0 else 1) < 30)) = true := by rfl)
    (hline : (apos.endLine == cpos.line) = true := by rfl) (hs : starEach [e] X.env = (false, eval e X.env) :: starEach [] X.env := by rfl) :
    PE X (.Call (.Attribute o "split" apos) [e] [] cpos) (rdE X.K X.w (bmF "str" splitO f g)) :=
  se_bm PySem.F.plainAttrs_str PySem.F.slot_str_split PySem.F.type_str_split mt_split ok_split ho ha hbase hfew hline hs rfl
theorem ok_words : OkM K ww (fun x xs H Q => ∃ a, x = .str a ∧ xs = [] ∧ a.length + 2 ≤ sizeLine ∧ rNewStrs (Txt.words a) H Q) wordsO := by
  intro H μ st x ys vx vs d st' Q g rx r hv k
  unfold wordsO at hv
  split at hv
  · rename_i a
    split at hv
    · rename_i hl
      cases hv
      simp only [Rep] at rx
      subst rx
      obtain rfl : vs = [] := by
        have := r.len
        cases vs with
        | nil => rfl
        | cons _ _ => cases this
      exact ⟨a, rfl, rfl, lim_ok hl, fun p hp => new_lst g (reps_strs _) k p hp⟩
    · cases hv
  · cases hv
theorem e_words {o : Expr} {apos cpos : Pos} {f : SE} (ho : PE X o (rdE X.K X.w f)) (hbase : attributeBase o "split" X.env (eval o X.env) = eval o X.env := by rfl) (hline : (apos.endLine == cpos.line) = true := by rfl) :
    PE X (.Call (.Attribute o "split" apos) [] [] cpos) (rdE X.K X.w (bm0F "str" wordsO f)) :=
  se_bm0 PySem.F.plainAttrs_str PySem.F.slot_str_split PySem.F.type_str_split mt_words ok_words ho hbase hline
theorem ok_join : OkM K ww (fun x xs H Q => ∃ a p, ∃ ys : List Str, x = .str a ∧ xs = [.ref p] ∧ (SqL K H p (ys.map V.str) ∨ SqT K H p (ys.map V.str)) ∧
    (ys.map (·.length)).sum + ys.length * a.length ≤ 16777216 ∧ Q (.str (Txt.join a ys)) H) joinO := by
  intro H μ st x ys vx vs d st' Q g rx r hv k
  unfold joinO at hv
  split at hv
  · rename_i a n
    split at hv
    · cases hv
    · rename_i xs e
      split at hv
      · cases hv
      · rename_i zs e2
        split at hv
        · rename_i hl
          cases hv
          simp only [Rep] at rx
          subst rx
          obtain ⟨v, rfl, rv⟩ := reps1 r
          simp only [Rep] at rv
          obtain ⟨p, rfl, hp⟩ := rv
          obtain ⟨ws, s, rs⟩ := g.getL hp e
          rw [strsD_eq e2] at rs
          rw [strs_reps rs] at s
          exact ⟨a, p, zs, rfl, rfl, .inl s, limc hl, here k g (by simp only [Rep])⟩
        · cases hv
  · cases hv
theorem e_join {o e : Expr} {apos cpos : Pos} {f : SE} {g : SA} (ho : PE X o (rdE X.K X.w f)) (ha : PA X [e] (rdA X.K X.w g))
    (hbase : attributeBase o "join" X.env (eval o X.env) = eval o X.env := by rfl)
    (hfew : ((backTo cpos (starEach [e] X.env)).all (fun x => !x.1) && (backToKw cpos (keywordEach [] X.env)).all (fun x => x.1.isSome)
      && decide ([e].length + ([] : List Keyword).length + (if ([] : List Keyword).isEmpty then 0 else 1) < 30)) = true := by rfl)
    (hline : (apos.endLine == cpos.line) = true := by rfl) (hs : starEach [e] X.env = (false, eval e X.env) :: starEach [] X.env := by rfl) :
    PE X (.Call (.Attribute o "join" apos) [e] [] cpos) (rdE X.K X.w (bmF "str" joinO f g)) :=
  se_bm PySem.F.plainAttrs_str PySem.F.slot_str_join PySem.F.type_str_join mt_join ok_join ho ha hbase hfew hline hs rfl
/-! ### *x among arguments and items -/
def starF (f : SE) (g : SA) : SA := fun σ st => bnd (f σ st) fun x st1 => match x with
  | .tup xs => bnd (g σ st1) fun ys st2 => some (xs ++ ys, st2)
  | .loc n => match getL st1 n with
    | some xs => bnd (g σ st1) fun ys st2 => some (xs ++ ys, st2)
    | none => none
  | _ => none
theorem starF_eq {f : SE} {g : SA} {σ : Sl} {st : Sto} : starF f g σ st = bnd (f σ st) fun x st1 => match x with
  | .tup xs => bnd (g σ st1) fun ys st2 => some (xs ++ ys, st2)
  | .loc n => match getL st1 n with
    | some xs => bnd (g σ st1) fun ys st2 => some (xs ++ ys, st2)
    | none => none
  | _ => none := rfl
theorem sa_star {e : Expr} {es : List Expr} {p : Pos} {f : SE} {g : SA} (ha : PE X e (rdE X.K X.w f)) (hr : PA X es (rdA X.K X.w g)) (hs : starEach (.Starred e p :: es) X.env = (true, eval e X.env) :: starEach es X.env := by rfl) : PA X (.Starred e p :: es) (rdA X.K X.w (starF f g)) := (StX.pa_star ha hr hs).weak fun τ H Q ⟨μ, st, σ, d, st', gd, er, hv, k⟩ => by
  obtain ⟨x, s1, h1, hv⟩ := bnd_eq hv
  refine ⟨μ, st, σ, x, s1, gd, er, h1, fun μ1 H1 vx g1 d1 r1 => ?_⟩
  cases x with
  | tup xs =>
    obtain ⟨ys, s2, h2, hv⟩ := bnd_eq hv
    cases hv
    simp only [Rep] at r1
    obtain ⟨a, ws, rfl, s, rs⟩ := r1
    refine ⟨a, ws, rfl, .inl s.1, μ1, s1, σ, ys, _, d1, er.m g1, h2, fun μ2 H2 vs g2 d2 r2 => ?_⟩
    exact k μ2 H2 _ (g1.trans g2) d2 ((rs.m g2).app r2)
  | loc n =>
    dsimp only at hv
    split at hv
    · rename_i xs e2
      obtain ⟨ys, s2, h2, hv⟩ := bnd_eq hv
      cases hv
      simp only [Rep] at r1
      obtain ⟨a, rfl, hp⟩ := r1
      obtain ⟨ws, s, rs⟩ := d1.getL hp e2
      refine ⟨a, ws, rfl, .inr s, μ1, s1, σ, ys, _, d1, er.m g1, h2, fun μ2 H2 vs g2 d2 r2 => ?_⟩
      exact k μ2 H2 _ (g1.trans g2) d2 ((rs.m g2).app r2)
    · cases hv
  | _ => cases hv
end
end Iv

namespace Iv
open PySem L2
/-! ### a list times an int -/
def lmulO : Op2 := fun x y st => match x, y with
  | .loc n, .int k => match getM st n with
    | none => none
    | some xs => if -1000000 < k ∧ k < 1000000 ∧ xs.length * k.toNat ≤ LIM then some (.loc st.length, st ++ [.lst (List.replicate k.toNat xs).flatten]) else none
  | _, _ => none
@[simp] theorem lmulO_eq {n : Nat} {k : Int} {st : Sto} : lmulO (.loc n) (.int k) st = (match getM st n with
    | none => none
    | some xs => if -1000000 < k ∧ k < 1000000 ∧ xs.length * k.toNat ≤ LIM then some (.loc st.length, st ++ [.lst (List.replicate k.toNat xs).flatten]) else none) := rfl
section
variable {X : Cx} {K : PySem.W.Frag} {ww : World}
theorem reps_rep {H : Hp} {μ : List Addr} {xs : List D} {vs : List V} (r : Reps K H μ xs vs) : ∀ k : Nat, Reps K H μ (List.replicate k xs).flatten (List.replicate k vs).flatten
  | 0 => reps_nil
  | k + 1 => by
    rw [List.replicate_succ, List.replicate_succ, List.flatten_cons, List.flatten_cons]
    exact r.app (reps_rep r k)
theorem ok_lmul : Ok2 K ww rRep lmulO := by
  intro H μ st x y vx vy d st' Q g rx ry hv k
  cases x with
  | loc n =>
    cases y with
    | int j =>
      simp only [Rep] at rx ry
      subst ry
      obtain ⟨p, rfl, hp⟩ := rx
      rw [lmulO_eq] at hv
      cases e : getM st n with
      | none => rw [e] at hv; cases hv
      | some xs =>
        rw [e] at hv
        dsimp only at hv
        split at hv
        · rename_i hc
          cases hv
          obtain ⟨vs, hH, r⟩ := g.getM hp e
          refine ⟨p, j, vs, rfl, rfl, hH, by omega, by omega, by rw [← r.len]; exact lim_ok hc.2.2, fun q hq => ?_⟩
          exact k _ _ _ (gr_new hq) (g.new hq (reps_rep r _)) (by simp only [Rep]; exact ⟨q, rfl, by rw [← g.len]; simp⟩)
        · cases hv
    | _ => cases hv
  | _ => cases hv
theorem e_lmul {a b : Expr} {f g : SE} {pos : Pos} (ha : PE X a (rdE X.K X.w f)) (hb : PE X b (rdE X.K X.w g)) : PE X (.BinOp a .Mult b pos) (rdE X.K X.w (binF lmulO f g)) := se_bin op_rep ok_lmul ha hb
end
/-! ### comprehensions with a test: what is kept of each item -/
theorem compF_loop {J : It} {g : Tg} {c : ST} {e : SE} {σ0 : Sl} {st1 : Sto} {xs : List D} {n : Nat} (φ : D → Option D) (hn : st1.length ≤ n) (hz : xs.length ≤ LIM) (hJ : ∀ s, Ext st1 s → items J s = some xs)
    (h : ∀ (i : Nat) (x : D), xs[i]? = some x → ∀ st, Ext st1 st → ∃ σ1 st2, g x σ0 = some σ1 ∧ c σ1 st = some ((φ x).isSome, st2) ∧ Ext st st2 ∧ ∀ y, φ x = some y → ∃ st3, e σ1 st2 = some (y, st3) ∧ Ext st2 st3) :
    ∀ (m i : Nat) (s : Sto), Ext st1 s → s[n]? = some (.lst ((xs.take i).filterMap φ)) → i ≤ xs.length → xs.length - i < m → ∃ s2, compV J g c e n σ0 m i s = some s2 ∧ Ext st1 s2 ∧ s2[n]? = some (.lst (xs.filterMap φ))
  | 0, i, s, _, _, _, hm => by omega
  | m + 1, i, s, hs, ha, hi, hm => by
    unfold compV
    simp only [hJ s hs]
    cases ex : xs[i]? with
    | none =>
      have e2 : i = xs.length := by
        have := List.getElem?_eq_none_iff.mp ex
        omega
      subst e2
      rw [List.take_length] at ha
      exact ⟨s, rfl, hs, ha⟩
    | some x =>
      have hlt := (List.getElem?_eq_some_iff.mp ex).1
      obtain ⟨σ1, s2, e1, e2, x2, e3⟩ := h i x ex s hs
      have ht : (xs.take (i + 1)).filterMap φ = (xs.take i).filterMap φ ++ (match φ x with
        | some y => [y]
        | none => []) := by
        rw [List.take_add_one, ex, List.filterMap_append]
        cases hx : φ x <;> simp [hx]
      cases hx : φ x with
      | none =>
        rw [hx] at e2 ht
        simp only [e1, e2, bnd_some, Option.isSome_none, Bool.false_eq_true, if_false]
        exact compF_loop φ hn hz hJ h m (i + 1) _ (hs.trans x2) (by rw [ht, List.append_nil]; exact x2.at ha) hlt (by omega)
      | some y =>
        obtain ⟨s3, e4, x3⟩ := e3 y hx
        rw [hx] at e2 ht
        have hs3 := (hs.trans x2).trans x3
        have ha3 := x3.at (x2.at ha)
        have ga : getM s3 n = some ((xs.take i).filterMap φ) := getM_of ha3
        have hl : ((xs.take i).filterMap φ).length < LIM := by
          have h1 := List.length_filterMap_le φ (xs.take i)
          rw [List.length_take] at h1
          exact Nat.lt_of_lt_of_le (by omega) hz
        have hn2 : n < s3.length := (List.getElem?_eq_some_iff.mp ha3).1
        simp only [e1, e2, bnd_some, Option.isSome_some, if_true, e4, ga, hl]
        refine compF_loop φ hn hz hJ h m (i + 1) _ (hs3.set hn) ?_ hlt (by omega)
        rw [List.getElem?_set_self hn2, ht]
theorem compF_ok {vs : List Nat} {i : SJ} {g : Tg} {c : ST} {e : SE} {σ : Sl} {st st1 : Sto} {J : It} {xs : List D} (φ : D → Option D) (hi : i σ st = some (J, st1)) (hz : xs.length ≤ LIM) (hJ : ∀ s, Ext st1 s → items J s = some xs)
    (h : ∀ (i : Nat) (x : D), xs[i]? = some x → ∀ st, Ext st1 st → ∃ σ1 st2, g x (wipeD σ vs) = some σ1 ∧ c σ1 st = some ((φ x).isSome, st2) ∧ Ext st st2 ∧ ∀ y, φ x = some y → ∃ st3, e σ1 st2 = some (y, st3) ∧ Ext st2 st3) :
    ∃ s2, compF vs i g c e σ st = some (.loc st1.length, s2) ∧ Ext st1 s2 ∧ s2[st1.length]? = some (.lst (xs.filterMap φ)) := by
  obtain ⟨s2, e2, x2, g2⟩ := compF_loop (n := st1.length) (σ0 := wipeD σ vs) φ (Nat.le_refl _) hz hJ h (xs.length + 1) 0 (st1 ++ [.lst []]) (Ext.app _) (by simp) (Nat.zero_le _) (by omega)
  refine ⟨s2, ?_, x2, g2⟩
  unfold compF
  simp only [hi, bnd_some, hJ st1 Ext.refl, e2, Option.map_some]
end Iv

namespace Iv
open PySem L2
/-! ### comprehensions over a range whose items change what stands before (a box) -/
theorem compI_loop {g : Tg} {e : SE} {σ0 : Sl} {xs : List D} {n : Nat} (P : Nat → List D → Sto → Prop) (hz : xs.length < LIM)
    (hP : ∀ i acc s, P i acc s → s[n]? = some (.lst acc) ∧ acc.length = i)
    (h : ∀ (i : Nat) (x : D) (acc : List D) (s : Sto), xs[i]? = some x → P i acc s → ∃ σ1 y s2, g x σ0 = some σ1 ∧ e σ1 s = some (y, s2) ∧ s2[n]? = some (.lst acc) ∧ P (i + 1) (acc ++ [y]) (s2.set n (.lst (acc ++ [y])))) :
    ∀ (m i : Nat) (acc : List D) (s : Sto), P i acc s → i ≤ xs.length → xs.length - i < m → ∃ acc2 s2, compV (.cns xs) g yesT e n σ0 m i s = some s2 ∧ P xs.length acc2 s2
  | 0, i, acc, s, _, _, hm => by omega
  | m + 1, i, acc, s, hp, hi, hm => by
    unfold compV
    simp only [items_cns]
    cases ex : xs[i]? with
    | none =>
      have e2 : i = xs.length := by
        have := List.getElem?_eq_none_iff.mp ex
        omega
      subst e2
      exact ⟨acc, s, rfl, hp⟩
    | some x =>
      have hlt := (List.getElem?_eq_some_iff.mp ex).1
      obtain ⟨σ1, y, s2, e1, e2, ga, hp2⟩ := h i x acc s ex hp
      have hl : acc.length < LIM := by rw [(hP i acc s hp).2]; exact Nat.lt_trans hlt hz
      simp only [e1, yesT, bnd_some, if_true, e2, getM_of ga, hl]
      exact compI_loop P hz hP h m (i + 1) _ _ hp2 hlt (by omega)
theorem compI_ok {vs : List Nat} {i : SJ} {g : Tg} {e : SE} {σ : Sl} {st st1 : Sto} {xs : List D} (P : Nat → List D → Sto → Prop) (hi : i σ st = some (.cns xs, st1)) (hz : xs.length < LIM)
    (hP : ∀ i acc s, P i acc s → s[st1.length]? = some (.lst acc) ∧ acc.length = i) (h0 : P 0 [] (st1 ++ [.lst []]))
    (h : ∀ (i : Nat) (x : D) (acc : List D) (s : Sto), xs[i]? = some x → P i acc s → ∃ σ1 y s2, g x (wipeD σ vs) = some σ1 ∧ e σ1 s = some (y, s2) ∧ s2[st1.length]? = some (.lst acc) ∧ P (i + 1) (acc ++ [y]) (s2.set st1.length (.lst (acc ++ [y])))) :
    ∃ acc s2, compF vs i g yesT e σ st = some (.loc st1.length, s2) ∧ P xs.length acc s2 := by
  obtain ⟨acc, s2, e2, p⟩ := compI_loop (n := st1.length) (σ0 := wipeD σ vs) P hz hP h (xs.length + 1) 0 [] (st1 ++ [.lst []]) h0 (Nat.zero_le _) (by omega)
  refine ⟨acc, s2, ?_, p⟩
  unfold compF
  simp only [hi, bnd_some, items_cns, e2, Option.map_some]
end Iv

namespace Iv
open PySem L2
/-! ### t.index(x), t a tuple of texts that was made while the program ran -/
def tixF (f : SE) (g : SA) : SE := fun σ st => bnd (f σ st) fun x s1 => match x with
  | .tup ds => if nst ds = true then bnd (g σ s1) fun ys s2 => indexC (.tup ds) ys s2 else none
  | _ => none
theorem tixF_eq {f : SE} {g : SA} {σ : Sl} {st : Sto} : tixF f g σ st = bnd (f σ st) fun x s1 => match x with
  | .tup ds => if nst ds = true then bnd (g σ s1) fun ys s2 => indexC (.tup ds) ys s2 else none
  | _ => none := rfl
section
variable {X : Cx} {K : PySem.W.Frag} {ww : World}
def tyTup (K : PySem.W.Frag) (x : V) (H : Hp) : Prop := ∃ p, x = .ref p ∧ NoD K H p
theorem ty_tup : TyOk X "tuple" (tyTup X.K) := fun pins σ H s x v I r ⟨p, ex, h⟩ => by
  subst ex
  cases r
  have q : ∃ o, s.heap.get? p = some o ∧ o.cls = .type "tuple" ∧ o.dict = none := by
    rcases h with ⟨o, u, h1, h2, h3⟩ | ⟨o, h1, h2, h3⟩
    · exact ⟨o, (I.hok p _ h1).1, h2, h3⟩
    · exact ⟨o, I.kIn p o h1, h2, h3⟩
  obtain ⟨o, e, ec, ed⟩ := q
  exact ⟨⟨o, e, ec⟩, fun b eb => by cases eb; exact ⟨o, e, ed⟩⟩
theorem e_tix {o e : Expr} {apos cpos : Pos} {f : SE} {g : SA} (ho : PE X o (rdE X.K X.w f)) (ha : PA X [e] (rdA X.K X.w g))
    (hbase : attributeBase o "index" X.env (eval o X.env) = eval o X.env := by rfl)
    (hfew : ((backTo cpos (starEach [e] X.env)).all (fun x => !x.1) && (backToKw cpos (keywordEach [] X.env)).all (fun x => x.1.isSome)
      && decide ([e].length + ([] : List Keyword).length + (if ([] : List Keyword).isEmpty then 0 else 1) < 30)) = true := by rfl)
    (hline : (apos.endLine == cpos.line) = true := by rfl) (hs : starEach [e] X.env = (false, eval e X.env) :: starEach [] X.env := by rfl) :
    PE X (.Call (.Attribute o "index" apos) [e] [] cpos) (rdE X.K X.w (tixF f g)) :=
  (pe_mG ty_tup PySem.F.plainAttrs_tuple PySem.F.slot_tuple_index PySem.F.type_tuple_index mt_tup_index ho ha hbase hfew hline hs rfl).weak fun τ H Q ⟨μ, st, σ, d', st', gd, er, hv, k⟩ => by
    rw [tixF_eq] at hv
    obtain ⟨x, s1, h1, hv⟩ := bnd_eq hv
    refine ⟨μ, st, σ, x, s1, gd, er, h1, fun μ1 H1 v g1 d1 r1 => ?_⟩
    split at hv
    · rename_i ds
      split at hv
      · rename_i hns
        obtain ⟨ys, s2, h2, hv⟩ := bnd_eq hv
        have r1' := r1
        simp only [Rep] at r1
        obtain ⟨p, vs, rfl, ⟨s, nd⟩, rs⟩ := r1
        refine ⟨⟨p, rfl, nd hns⟩, μ1, s1, σ, ys, s2, d1, er.m g1, h2, fun μ2 H2 ws g2 d2 r2 => ?_⟩
        have rx := r1'.m g2
        simp only [Rep] at rx
        obtain ⟨p2, vs2, e2, ⟨t, _⟩, rs2⟩ := rx
        cases e2
        unfold indexC at hv
        split at hv
        · rename_i xs z e1
          cases e1
          split at hv
          · cases hv
          · rename_i zs e2
            split at hv
            · cases hv
            · rename_i j e3
              cases hv
              obtain ⟨v, rfl, rv⟩ := reps1 r2
              simp only [Rep] at rv
              obtain ⟨q1, q2⟩ := idxS_ok e3
              exact ⟨p, zs, z, j, rfl, by rw [rv], by rw [← strs_of rs2 e2]; exact t, q1, q2, k μ2 H2 _ (g1.trans g2) d2 (by simp only [Rep])⟩
        · cases hv
      · cases hv
    · cases hv
end
end Iv

namespace Iv
open PySem L2
/-! ### l.count(x), l a list of texts -/
theorem cnt_strs {z : Str} : ∀ {xs : List Str} {us : List Value}, Vals (xs.map V.str) us → us.countP (eqU (.str z)) = xs.count z
  | [], us, r => by cases r; rfl
  | x :: xs, us, r => by
    cases r with
    | cons ru rt =>
      obtain ⟨t, rfl⟩ := ru
      rw [List.countP_cons, List.count_cons, cnt_strs rt]
      rfl
def rCntS (K : PySem.W.Frag) : V → List V → Hp → VK → Prop := fun x ys H Q => ∃ (p : Addr) (xs : List Str) (z : Str), x = .ref p ∧ ys = [.str z] ∧ SqL K H p (xs.map V.str) ∧ Q (.int (xs.count z : Nat)) H
section
variable {X : Cx} {K : PySem.W.Frag} {ww : World}
theorem mt_cntS : MtR X "list.count" (rCntS X.K) := fun pins s σ H x ys v us Q I rx ry ⟨p, xs, z, ex, ey, hq, q⟩ => by
  subst ex ey
  cases rx
  obtain ⟨u, rfl, t, rfl⟩ := vals1 ry
  obtain ⟨its, r, ⟨⟨c, dd, da, sl⟩, n, ho, hc, hdn, hd⟩, hz⟩ := I.list hq
  simp only at hc hd
  subst hc hd
  refine call_meets PySem.F.slot_list_count ⟨_, ho, rfl⟩ PySem.F.entry_list_count (PySem.F.args_list_count_2 _ _) (SeqAt.list_countAt p its.toArray n dd sl (.str z t) (eqU (.str z)))
    ⟨ho, fun w hw => mem_eqAt (x := .str z) ⟨t, rfl⟩ rfl r (flat_strs xs) w (by simpa using hw), .int (xs.count z : Nat), H, I.tok _, ⟨s.toks, ?_⟩, q⟩
  show Value.int ((its.toArray.toList.countP (eqU (.str z)) : Nat) : Int) s.toks = _
  rw [show its.toArray.toList.countP (eqU (.str z)) = xs.count z from cnt_strs r]
def intsD : List D → Option (List Int)
  | [] => some []
  | .int i :: ds => (intsD ds).map fun is => i :: is
  | _ :: _ => none
theorem intsD_map : ∀ ns : List Int, intsD (ns.map .int) = some ns
  | [] => rfl
  | n :: ns => by rw [List.map_cons, intsD, intsD_map ns]; rfl
theorem ints_are {H : Hp} {μ : List Addr} : ∀ {xs : List D} {vs : List V} {is : List Int}, Reps K H μ xs vs → intsD xs = some is → vs = is.map V.int
  | [], vs, is, r, h => by simp only [Reps] at r; cases h; exact r
  | x :: xs, vs, is, r, h => by
    simp only [Reps] at r
    obtain ⟨v, ws, rfl, r1, r2⟩ := r
    cases x with
    | int i =>
      simp only [intsD] at h
      cases e : intsD xs with
      | none => rw [e] at h; cases h
      | some cs =>
        rw [e] at h
        cases h
        simp only [Rep] at r1
        rw [r1, ints_are r2 e]
        rfl
    | _ => cases h
def countO : OpM := fun x ys st => match x, ys with
  | .loc n, [.int k] => match getL st n with
    | none => none
    | some xs => (intsD xs).map fun zs => (.int (zs.count k : Nat), st)
  | .loc n, [.str z] => match getL st n with
    | none => none
    | some xs => (strsD xs).map fun zs => (.int (zs.count z : Nat), st)
  | _, _ => none
@[simp] theorem countO_eq {n : Nat} {z : Str} {st : Sto} : countO (.loc n) [.str z] st = (match getL st n with
    | none => none
    | some xs => (strsD xs).map fun zs => (.int (zs.count z : Nat), st)) := rfl
theorem countO_int {n : Nat} {k : Int} {st : Sto} : countO (.loc n) [.int k] st = (match getL st n with
    | none => none
    | some xs => (intsD xs).map fun zs => (.int (zs.count k : Nat), st)) := rfl
theorem ok_count : OkM K ww (fun x xs H Q => rCntS K x xs H Q ∨ rCntI K x xs H Q) countO := by
  intro H μ st x ys vx vs d st' Q g rx r hv k
  unfold countO at hv
  split at hv
  · rename_i n z
    simp only [Rep] at rx
    obtain ⟨p, rfl, hp⟩ := rx
    obtain ⟨v, rfl, rv⟩ := reps1 r
    simp only [Rep] at rv
    cases e : getL st n with
    | none => rw [e] at hv; cases hv
    | some xs =>
      rw [e] at hv
      obtain ⟨ws, s, rs⟩ := g.getL hp e
      cases e2 : intsD xs with
      | none => simp only [e2] at hv; cases hv
      | some zs =>
        simp only [e2] at hv
        cases hv
        exact .inr ⟨p, zs, z, rfl, by rw [rv], by rw [← ints_are rs e2]; exact s, here k g (by simp only [Rep])⟩
  · rename_i n z
    simp only [Rep] at rx
    obtain ⟨p, rfl, hp⟩ := rx
    obtain ⟨v, rfl, rv⟩ := reps1 r
    simp only [Rep] at rv
    cases e : getL st n with
    | none => rw [e] at hv; cases hv
    | some xs =>
      rw [e] at hv
      obtain ⟨ws, s, rs⟩ := g.getL hp e
      cases e2 : strsD xs with
      | none => simp only [e2] at hv; cases hv
      | some zs =>
        simp only [e2] at hv
        cases hv
        exact .inl ⟨p, zs, z, rfl, by rw [rv], by rw [← strs_of rs e2]; exact s, here k g (by simp only [Rep])⟩
  · cases hv
theorem e_count {o e : Expr} {apos cpos : Pos} {f : SE} {g : SA} (ho : PE X o (rdE X.K X.w f)) (ha : PA X [e] (rdA X.K X.w g))
    (hbase : attributeBase o "count" X.env (eval o X.env) = eval o X.env := by rfl)
    (hfew : ((backTo cpos (starEach [e] X.env)).all (fun x => !x.1) && (backToKw cpos (keywordEach [] X.env)).all (fun x => x.1.isSome)
      && decide ([e].length + ([] : List Keyword).length + (if ([] : List Keyword).isEmpty then 0 else 1) < 30)) = true := by rfl)
    (hline : (apos.endLine == cpos.line) = true := by rfl) (hs : starEach [e] X.env = (false, eval e X.env) :: starEach [] X.env := by rfl) :
    PE X (.Call (.Attribute o "count" apos) [e] [] cpos) (rdE X.K X.w (bmF "list" countO f g)) :=
  se_bm PySem.F.plainAttrs_list PySem.F.slot_list_count PySem.F.type_list_count (MtR.or mt_cntS mt_lcount) ok_count ho ha hbase hfew hline hs rfl
/-! ### e == NAME, NAME a list of the module -/
def ConL (K : PySem.W.Frag) (mg : Str → Option Value) (x : Str) (ps : List PyData) : Prop := ∃ a, mg x = some (.ref a) ∧ ∀ H, Dp K H (.ref a) (.list ps)
theorem gd0 (H : Hp) : Gd K ww H [] [] := ⟨rfl, fun n m p xs ys h => (by cases h), fun n p o h => (by cases h)⟩
theorem conL_mk (w0 : World) {h : Heap} {mg : Str → Option Value} {x : Str} {p : Addr} {ds : List D} {ps : List PyData} {its : Array Value} {n : Nat} {sl : Array (Option Value)} (X : K.In h) (G : h.Ns mainGlobals mg) (a : PySem.W.nsIn K mainGlobals x = some (some (.ref p))) (l : K.lookup p = some ⟨.type "list", none, .seq its n, sl⟩) (z : its.size ≤ 1000) (c : CVs K its.toList ds) (e : pys [] 60 ds = some ps) : ConL K mg x ps := by
  obtain ⟨vs, r, q⟩ := cvs_ok c
  exact ⟨p, PySem.W.mg_of X G a, fun H => .lst (.inr ⟨_, _, _, l, rfl, rfl, rfl, Nat.le_trans z (by rw [sizeLine_eq]; decide), r⟩) (pys_dp (gd0 (ww := w0) H) 60 ds vs ps e (q H []))⟩
def eqLO (ps : List PyData) (neg : Bool) : Op1 := fun x st => match py st 60 x with
  | none => none
  | some p => if SeqAt.shaped p = true ∧ SeqAt.shaped (.list ps) = true then some (.bl (PyData.eqv p (.list ps) != neg), st) else none
theorem eqLO_eq {ps : List PyData} {neg : Bool} {x : D} {st : Sto} : eqLO ps neg x st = (match py st 60 x with
  | none => none
  | some p => if SeqAt.shaped p = true ∧ SeqAt.shaped (.list ps) = true then some (.bl (PyData.eqv p (.list ps) != neg), st) else none) := rfl
variable {x : Str} {ps : List PyData} {p pos : Pos} {e : Expr} {f : SE}
theorem e_eqL (hu : X.A.units + 64 < cLine) (C : ConL X.K X.mg x ps) (hg : Gl X x) (ha : PE X e (rdE X.K X.w f)) (hm : behindInMarks .Eq (.Name x p) = false := by first | exact nobehind _ (by decide) (by decide) | rfl) (hd : (x == ("__debug__" : Str)) = false := by decide) : PE X (.Compare e [.Eq] [.Name x p] pos) (rdE X.K X.w (unF (eqLO ps false) f)) := by
  obtain ⟨a, hx, hD⟩ := C
  refine (pe_cmpR (op_eqD hu) ha (pe_glob hg hx (v := .ref a) rfl hd) hm).weak ?_
  rintro τ H Q ⟨μ, st, σ, d, st', gd, er, hv, k⟩
  obtain ⟨y, s1, h1, hv⟩ := bnd_eq hv
  refine ⟨μ, st, σ, y, s1, gd, er, h1, fun μ1 H1 vx g1 d1 r1 => ?_⟩
  rw [eqLO_eq] at hv
  split at hv
  · cases hv
  · rename_i q e1
    split at hv
    · rename_i hs
      cases hv
      exact ⟨q, _, py_dp d1 _ _ _ _ e1 r1, hD H1, hs.1, hs.2, k μ1 H1 _ g1 d1 (by simp [Rep])⟩
    · cases hv
theorem t_eqL (hu : X.A.units + 64 < cLine) (C : ConL X.K X.mg x ps) (hg : Gl X x) (ha : PE X e (rdE X.K X.w f)) (hm : behindInMarks .Eq (.Name x p) = false := by first | exact nobehind _ (by decide) (by decide) | rfl) (hd : (x == ("__debug__" : Str)) = false := by decide) : PT X (.Compare e [.Eq] [.Name x p] pos) (rdT X.K X.w (truF (unF (eqLO ps false) f))) := by
  obtain ⟨a, hx, hD⟩ := C
  refine (pt_cmpR (op_eqD hu) ha (pe_glob hg hx (v := .ref a) rfl hd) hm).weak ?_
  rintro τ H Q ⟨μ, st, σ, b, st', gd, er, hv, k⟩
  obtain ⟨y0, s0, h0, hv⟩ := bnd_eq hv
  obtain ⟨y, s1, h1, h2⟩ := bnd_eq h0
  refine ⟨μ, st, σ, y, s1, gd, er, h1, fun μ1 H1 vx g1 d1 r1 => ?_⟩
  rw [eqLO_eq] at h2
  split at h2
  · cases h2
  · rename_i q e1
    split at h2
    · rename_i hs
      cases h2
      cases hv
      exact ⟨q, _, py_dp d1 _ _ _ _ e1 r1, hD H1, hs.1, hs.2, _, rfl, by simpa using k μ1 H1 g1 d1⟩
    · cases h2
end
end Iv

namespace Iv
open PySem L2
section
variable {X : Cx} {K : PySem.W.Frag} {ww : World}
/-! ### s * n for n up to 2 -/
def smul2O : Op2
  | .str a, .int n, st => if n = 1 then some (.str a, st) else if n < 1 ∧ -1000000 < n then some (.str Str.empty, st) else if n = 2 ∧ 1 ≤ a.length ∧ a.length ≤ 1000 then some (.str (a ++ a), st) else none
  | _, _, _ => none
@[simp] theorem smul2O_eq {a : Str} {n : Int} {st : Sto} : smul2O (.str a) (.int n) st = if n = 1 then some (.str a, st) else if n < 1 ∧ -1000000 < n then some (.str Str.empty, st) else if n = 2 ∧ 1 ≤ a.length ∧ a.length ≤ 1000 then some (.str (a ++ a), st) else none := rfl
def rSmul2 : R2 := fun x y H Q => ∃ a n, x = V.str a ∧ y = .int n ∧ ((n = 1 ∧ Q (.str a) H) ∨ (n < 1 ∧ -1000000 < n ∧ Q (.str Str.empty) H) ∨ (n = 2 ∧ 1 ≤ a.length ∧ a.length ≤ 1000 ∧ Q (.str (a ++ a)) H))
theorem twice (a : Str) : (⟨(List.replicate (2 : Int).toNat a.cps).foldl (· ++ ·) #[]⟩ : Str) = a ++ a := by
  show (⟨#[] ++ a.cps ++ a.cps⟩ : Str) = ⟨a.cps ++ a.cps⟩
  rw [Array.empty_append]
theorem op_smul2 : OpR X (binaryOp .Mult) rSmul2 := by
  intro pins s σ H x y v u Q I rx ry h
  obtain ⟨a, n, rfl, rfl, h⟩ := h
  obtain ⟨t, rfl⟩ := rx
  obtain ⟨t', rfl⟩ := ry
  rcases h with ⟨rfl, q⟩ | ⟨h1, h2, q⟩ | ⟨rfl, h1, h2, q⟩
  · refine PySem.P.mul_str (by decide) (fun _ h => by cases h) (fun _ h => by cases h) ?_
    exact ⟨.str a, H, I, ⟨t, rfl⟩, q⟩
  · exact PySem.P.mul_str_none h1 (by omega) ⟨.str Str.empty, H, I.tok _, ⟨_, rfl⟩, q⟩
  · have hn : ((2 : Int) == 1 || a.length == 0) = false := by
      have : ¬ a.length = 0 := by omega
      simp [this]
    have sl : 2000 ≤ sizeLine := by rw [sizeLine_eq]; decide
    have big : PySem.Builtin.Str.tooLong (a.length * (2 : Int).toNat) = false := by
      show PySem.Builtin.Str.tooLong (a.length * 2) = false
      unfold PySem.Builtin.Str.tooLong
      simp only [decide_eq_false_iff_not]
      omega
    refine PySem.P.mul_str (by decide) (fun _ _ => by
      have : (9223372036854775807 : Int) / 2 = 4611686018427387903 := by decide
      show ¬ ((a.length : Int) > (2 ^ 63 - 1) / 2)
      omega) (fun _ _ => big) ?_
    rw [if_neg (by decide), hn]
    simp only [Bool.false_eq_true, if_false]
    rw [twice]
    refine ⟨?_, .str (a ++ a), H, I.tok _, ⟨_, rfl⟩, q⟩
    have hl : (a ++ a).length = a.length + a.length := by show (a.cps ++ a.cps).size = _; rw [Array.size_append]; rfl
    omega
theorem ok_smul2 : Ok2 K ww rSmul2 smul2O := by
  intro H μ st x y vx vy d st' Q g rx ry hv k
  cases x with
  | str a =>
    cases y with
    | int n =>
      simp only [Rep] at rx ry
      subst rx ry
      rw [smul2O_eq] at hv
      split at hv
      · rename_i h
        cases hv
        exact ⟨a, n, rfl, rfl, .inl ⟨h, here k g (by simp only [Rep])⟩⟩
      · split at hv
        · rename_i h
          cases hv
          exact ⟨a, n, rfl, rfl, .inr (.inl ⟨h.1, h.2, here k g (by simp only [Rep])⟩)⟩
        · split at hv
          · rename_i h
            cases hv
            exact ⟨a, n, rfl, rfl, .inr (.inr ⟨h.1, h.2.1, h.2.2, here k g (by simp only [Rep])⟩)⟩
          · cases hv
    | _ => cases hv
  | _ => cases hv
theorem e_smul2 {a b : Expr} {f g : SE} {pos : Pos} (ha : PE X a (rdE X.K X.w f)) (hb : PE X b (rdE X.K X.w g)) : PE X (.BinOp a .Mult b pos) (rdE X.K X.w (binF smul2O f g)) := se_bin op_smul2 ok_smul2 ha hb
end
end Iv

namespace Iv
open PySem L2 PySem.Spec
section
variable {X : Cx} {K : PySem.W.Frag} {ww : World}
/-! ### sum(xs), ints -/
def sumO : OpN
  | [.loc n], st => match getL st n with
    | none => none
    | some xs => (intsD xs).map fun is => (.int is.sum, st)
  | _, _ => none
theorem sumO_loc {n : Nat} {st : Sto} {is : List Int} (h : getL st n = some (is.map .int)) : sumO [.loc n] st = some (.int is.sum, st) := by
  simp only [sumO, h, intsD_map, Option.map_some]
theorem ok_sum : OkN K ww (rSum K) sumO := by
  intro H μ st xs vs d st' Q g r hv k
  unfold sumO at hv
  split at hv
  · rename_i n
    obtain ⟨v, rfl, rv⟩ := reps1 r
    simp only [Rep] at rv
    obtain ⟨p, rfl, hp⟩ := rv
    split at hv
    · cases hv
    · rename_i ys e
      cases e2 : intsD ys with
      | none => rw [e2] at hv; cases hv
      | some is =>
        rw [e2] at hv
        cases hv
        obtain ⟨ws, s, rs⟩ := g.getL hp e
        rw [ints_are rs e2] at s
        exact ⟨p, is, rfl, s, here k g (by simp [Rep])⟩
  · cases hv
theorem e_sum {p pos : Pos} {e : Expr} {f : SA} (hc : X.calm = true) (hg : Gl X "sum") (hm : X.mg "sum" = none) (ha : PA X [e] (rdA X.K X.w f)) (he : starEach [e] X.env = (false, eval e X.env) :: starEach [] X.env := by rfl) : PE X (.Call (.Name "sum" p) [e] [] pos) (rdE X.K X.w (appF sumO f)) :=
  se_callB (cr_sum hc) ok_sum hg hm (by decide +kernel) ha (he := he)

/-! ### zip(s, t) of two tuples -/
def zipI (f : SA) : SJ := fun σ st => bnd (f σ st) fun ds s1 => match ds with
  | [.tup xs, .tup ys] => if (zipD xs ys).all notTx = true then some (.cns (zipD xs ys), s1) else none
  | [.loc n, .loc m] => (getL s1 n).bind fun _ => (getL s1 m).map fun _ => (.zip n m, s1)
  | _ => none
@[simp] theorem zipI_eq {f : SA} {σ : Sl} {st : Sto} : zipI f σ st = bnd (f σ st) fun ds s1 => match ds with
  | [.tup xs, .tup ys] => if (zipD xs ys).all notTx = true then some (.cns (zipD xs ys), s1) else none
  | [.loc n, .loc m] => (getL s1 n).bind fun _ => (getL s1 m).map fun _ => (.zip n m, s1)
  | _ => none := rfl
theorem si_zip {e e2 : Expr} {f : SA} {p pos tpos : Pos} {elts : List Expr} {kk : Nat} (hg : Gl X "zip") (hm : X.mg "zip" = none) (ha : PA X [e, e2] (rdA X.K X.w f))
    (hs : starEach [e, e2] X.env = (false, eval e X.env) :: starEach [e2] X.env := by rfl) (hpl : (backTo pos (starEach [e2] X.env)).any (·.1) = false := by rfl) :
    PI X (.Tuple elts kk tpos) (.Call (.Name "zip" p) [e, e2] [] pos) (rdI X.K X.w (zipI f)) := ⟨fun pins s τ H R I hw => by
  obtain ⟨μ, st, σ, J, st', gd, er, hv, k⟩ := hw
  obtain ⟨ds, s1, h1, hv⟩ := bnd_eq hv
  split at hv
  · rename_i xs ys
    split at hv
    · rename_i hall
      cases hv
      refine (RZ.pi_zipA hg hm ha hs hpl).run pins s τ H R I ⟨μ, st, σ, _, _, gd, er, h1, fun μ1 H1 vs g1 d1 r1 => ?_⟩
      obtain ⟨v, w, rfl, rv, rw'⟩ := reps2 r1
      simp only [Rep] at rv rw'
      obtain ⟨p, us, rfl, ⟨su, _⟩, ru⟩ := rv
      obtain ⟨q, ws, rfl, ⟨sw, _⟩, rw2⟩ := rw'
      refine ⟨p, q, us, ws, rfl, .inr ⟨su, sw, k μ1 H1 _ g1 d1 fun μ2 H2 st2 zs g2 d2 e2 => ?_⟩⟩
      cases e2
      have su2 := g2.1.sqT su
      have sw2 := g2.1.sqT sw
      have ru2 := ru.m g2
      have rw3 := rw2.m g2
      refine ⟨fun i hi => ⟨us, ws, su2, sw2, by rw [zipD_len] at hi; rw [← ru2.len, ← rw3.len]; omega⟩, fun i d hd => ?_⟩
      have hn : notTx d = true := List.all_eq_true.mp hall d (List.mem_of_getElem? hd)
      rw [zipD_get] at hd
      split at hd
      · rename_i x y ex ey
        cases hd
        obtain ⟨vx, hx, rx⟩ := ru2.get ex
        obtain ⟨vy, hy, ry⟩ := rw3.get ey
        refine ⟨⟨us, ws, vx, vy, su2, sw2, hx, hy⟩, fun z H3 ⟨T, a, b, e5, e6, e7, e8, e9⟩ => ?_⟩
        subst e5 e7
        have q8 := e8 us su2
        rw [hx] at q8
        cases q8
        have q9 := e9 ws sw2
        rw [hy] at q9
        cases q9
        have gt : Gr H2 μ2 (upd H2 T (.tup [vx, vy])) μ2 := gr_tup e6
        exact ⟨same_upd e6, rep_tup (.inl (.inl upd_same)) (fun z => by rw [notTx, z] at hn; cases hn) (reps_cons (rx.m gt) (reps_cons (ry.m gt) reps_nil))⟩
      · cases hd
    · cases hv
  · rename_i n m
    cases en : getL s1 n with
    | none => rw [en] at hv; cases hv
    | some xs =>
    cases em : getL s1 m with
    | none => rw [en, em] at hv; cases hv
    | some ys =>
    rw [en, em] at hv
    cases hv
    refine (RZ.pi_zipA hg hm ha hs hpl).run pins s τ H R I ⟨μ, st, σ, _, _, gd, er, h1, fun μ1 H1 vs g1 d1 r1 => ?_⟩
    obtain ⟨v, w, rfl, rv, rw'⟩ := reps2 r1
    simp only [Rep] at rv rw'
    obtain ⟨p, rfl, hp⟩ := rv
    obtain ⟨q, rfl, hq⟩ := rw'
    obtain ⟨us, su, _⟩ := d1.getL hp en
    obtain ⟨ws, sw, _⟩ := d1.getL hq em
    refine ⟨p, q, us, ws, rfl, .inl ⟨su, sw, k μ1 H1 _ g1 d1 fun μ2 H2 st2 zs g2 d2 e2 => ?_⟩⟩
    simp only [items] at e2
    cases en2 : getL st2 n with
    | none => rw [en2] at e2; cases e2
    | some xs2 =>
    cases em2 : getL st2 m with
    | none => rw [en2, em2] at e2; cases e2
    | some ys2 =>
    rw [en2, em2] at e2
    simp only at e2
    split at e2
    · rename_i hall
      cases e2
      obtain ⟨us2, su2, ru2⟩ := d2.getL (g2.get hp) en2
      obtain ⟨ws2, sw2, rw3⟩ := d2.getL (g2.get hq) em2
      refine ⟨fun i hi => ⟨us2, ws2, su2, sw2, by rw [zipD_len] at hi; rw [← ru2.len, ← rw3.len]; omega⟩, fun i d hd => ?_⟩
      have hn : notTx d = true := List.all_eq_true.mp hall d (List.mem_of_getElem? hd)
      rw [zipD_get] at hd
      split at hd
      · rename_i x y ex ey
        cases hd
        obtain ⟨vx, hx, rx⟩ := ru2.get ex
        obtain ⟨vy, hy, ry⟩ := rw3.get ey
        refine ⟨⟨us2, ws2, vx, vy, su2, sw2, hx, hy⟩, fun z H3 ⟨T, a, b, e5, e6, e7, e8, e9⟩ => ?_⟩
        subst e5 e7
        have q8 := e8 us2 su2
        rw [hx] at q8
        cases q8
        have q9 := e9 ws2 sw2
        rw [hy] at q9
        cases q9
        have gt : Gr H2 μ2 (upd H2 T (.tup [vx, vy])) μ2 := gr_tup e6
        exact ⟨same_upd e6, rep_tup (.inl (.inl upd_same)) (fun z => by rw [notTx, z] at hn; cases hn) (reps_cons (rx.m gt) (reps_cons (ry.m gt) reps_nil))⟩
      · cases hd
    · cases e2
  · cases hv⟩

/-! ### comprehensions of two clauses -/
def comp2V (J : It) (g : Tg) (c : ST) (i1 : SJ) (g1 : Tg) (c1 : ST) (e : SE) (vs1 : List Nat) (n : Nat) (σ0 : Sl) : Nat → Nat → Sto → Option Sto
  | 0, _, _ => none
  | m + 1, i, st => match items J st with
    | none => none
    | some xs => match xs[i]? with
      | none => some st
      | some d => match g d σ0 with
        | none => none
        | some σ1 => bnd (c σ1 st) fun b s1 => if b = true then bnd (i1 σ1 s1) fun J1 s2 => (match items J1 s2 with
            | none => none
            | some ys => match compV J1 g1 c1 e n (wipeD σ1 vs1) (ys.length + 1) 0 s2 with
              | none => none
              | some s3 => comp2V J g c i1 g1 c1 e vs1 n σ0 m (i + 1) s3) else comp2V J g c i1 g1 c1 e vs1 n σ0 m (i + 1) s1
def comp2F (vs vs1 : List Nat) (i : SJ) (g : Tg) (c : ST) (i1 : SJ) (g1 : Tg) (c1 : ST) (e : SE) : SE := fun σ st => bnd (i σ st) fun J s1 => match items J s1 with
  | none => none
  | some xs => (comp2V J g c i1 g1 c1 e vs1 s1.length (wipeD σ vs) (xs.length + 1) 0 (s1 ++ [.lst []])).map fun s2 => (.loc s1.length, s2)
theorem rd_comp2 {vs vs1 : List Nat} {i i1 : SJ} {gg gg1 : TG} {g g1 : Tg} {c c1 : ST} {e : SE} (ok : OkG K gg g) (ow : OwnG vs gg) (ok1 : OkG K gg1 g1) (ow1 : OwnG vs1 gg1) :
    ∀ τ H Q, rdE K ww (comp2F vs vs1 i g c i1 g1 c1 e) τ H Q → tLc2 (rdI K ww i) gg (rdT K ww c) (rdI K ww i1) gg1 (rdT K ww c1) (rdE K ww e) vs vs1 τ H Q :=
  fun τ H Q ⟨μ, st, σ, d, st', gd, er, hv, k⟩ => by
    obtain ⟨J, s1, h1, hv⟩ := bnd_eq hv
    cases ei : items J s1 with
    | none => simp only [ei] at hv; cases hv
    | some xs =>
      simp only [ei] at hv
      cases ec : comp2V J g c i1 g1 c1 e vs1 s1.length (wipeD σ vs) (xs.length + 1) 0 (s1 ++ [.lst []]) with
      | none => rw [ec] at hv; cases hv
      | some s9 =>
        rw [ec] at hv
        cases hv
        refine ⟨μ, st, σ, J, s1, gd, er, h1, fun μ0 H0 J' g0 d0 iR Dp hD => ?_⟩
        have gn : Gr H0 μ0 (upd H0 Dp (.lst [])) (μ0 ++ [Dp]) := gr_new hD
        have dn := d0.new hD (reps_nil (K := K) (H := H0) (μ := μ0))
        have hDp : (μ0 ++ [Dp])[s1.length]? = some Dp := by
          rw [← d0.len, List.getElem?_append_right (Nat.le_refl _), Nat.sub_self]
          rfl
        have ew : EnvR K H0 μ0 (wipeD σ vs) (wipe τ vs) := envr_wipe (er.m g0) vs
        refine ⟨fun j m H1 => ∃ μ1 s2, Gr (upd H0 Dp (.lst [])) (μ0 ++ [Dp]) H1 μ1 ∧ Gd K ww H1 μ1 s2 ∧ comp2V J g c i1 g1 c1 e vs1 s1.length (wipeD σ vs) m j s2 = some st', ⟨_, μ0 ++ [Dp], _, Gr.refl _ _, dn, ec⟩, ?_⟩
        rintro j m H1 ⟨μ1, s2, gr1, d1, hv1⟩
        cases m with
        | zero => cases hv1
        | succ m =>
          unfold comp2V at hv1
          cases e2 : items J s2 with
          | none => simp only [e2] at hv1; cases hv1
          | some ys =>
            simp only [e2] at hv1
            have g01 := gn.trans gr1
            obtain ⟨q1, q2⟩ := iR μ1 H1 s2 ys g01 d1 e2
            cases e3 : ys[j]? with
            | none =>
              simp only [e3] at hv1
              cases hv1
              exact .inl ⟨q1 j (by simpa using e3), k μ1 H1 _ (g0.trans g01) d1 (rep_loc (gr1.get hDp))⟩
            | some y =>
              simp only [e3] at hv1
              obtain ⟨q3, q4⟩ := q2 j y e3
              let Nx : Hp → Prop := fun H3 => ∃ μ3 s3, Gr (upd H0 Dp (.lst [])) (μ0 ++ [Dp]) H3 μ3 ∧ Gd K ww H3 μ3 s3 ∧ comp2V J g c i1 g1 c1 e vs1 s1.length (wipeD σ vs) m (j + 1) s3 = some st'
              refine .inr ⟨q3, Nx, fun H3 q => ⟨m, Nat.lt_succ_self m, q⟩, fun x H2 hy => ?_⟩
              obtain ⟨sm, rx⟩ := q4 x H2 hy
              have gs : Gr H1 μ1 H2 μ1 := ⟨Keeps.same sm, [], by simp⟩
              have d2 := d1.same sm
              cases e4 : g y (wipeD σ vs) with
              | none => simp only [e4] at hv1; cases hv1
              | some σ2 =>
                simp only [e4] at hv1
                obtain ⟨b, s3, h3, hv1⟩ := bnd_eq hv1
                have main : gg x (wipe τ vs) H2 fun τ2 H2 => rdT K ww c τ2 H2 fun b H3 => if b = true then rdI K ww i1 τ2 H3 fun J1 H4 => ∃ W1 : Nat → Nat → Hp → Prop, (∃ m, W1 0 m H4) ∧ ∀ j k H, W1 j k H →
                    (J1.stop j H ∧ Nx H) ∨ (J1.go j H ∧ ∃ Nx1 : Hp → Prop, (∀ H', Nx1 H' → ∃ k', k' < k ∧ W1 (j + 1) k' H') ∧ ∀ x H', J1.yld j H x H' → gg1 x (wipe τ2 vs1) H' fun τ3 H5 => wipe τ3 vs1 = wipe τ2 vs1 ∧ rdT K ww c1 τ3 H5 fun b H6 =>
                      if b = true then rdE K ww e τ3 H6 fun y H7 => ∃ acc, H7 Dp = some (.lst acc) ∧ acc.length < sizeLine ∧ Nx1 (upd H7 Dp (.lst (acc ++ [y]))) else Nx1 H6)
                    else Nx H3 := by
                  refine ok H2 μ1 _ _ y x σ2 _ (ew.m (g01.trans gs)) rx e4 fun τ2 e5 => ?_
                  refine ⟨μ1, s2, σ2, b, s3, d2, e5, h3, fun μ4 H4 g4 d4 => ?_⟩
                  have g5 := (gr1.trans gs).trans g4
                  cases b with
                  | false => exact ⟨μ4, s3, g5, d4, hv1⟩
                  | true =>
                    rw [if_pos rfl] at hv1
                    show rdI K ww i1 τ2 H4 _
                    obtain ⟨J1, s4, h4, hv1⟩ := bnd_eq hv1
                    cases e6 : items J1 s4 with
                    | none => simp only [e6] at hv1; cases hv1
                    | some zs =>
                      simp only [e6] at hv1
                      cases e7 : compV J1 g1 c1 e s1.length (wipeD σ2 vs1) (zs.length + 1) 0 s4 with
                      | none => simp only [e7] at hv1; cases hv1
                      | some s5 =>
                        simp only [e7] at hv1
                        refine ⟨μ4, s3, σ2, J1, s4, d4, e5.m g4, h4, fun μ6 H6 J1' g6 d6 iR1 => ?_⟩
                        have g06 := g5.trans g6
                        have ew1 : EnvR K H6 μ6 (wipeD σ2 vs1) (wipe τ2 vs1) := envr_wipe (e5.m (g4.trans g6)) vs1
                        refine ⟨fun j' k' H7 => ∃ μ7 s7, Gr H6 μ6 H7 μ7 ∧ Gd K ww H7 μ7 s7 ∧ compV J1 g1 c1 e s1.length (wipeD σ2 vs1) k' j' s7 = some s5, ⟨_, μ6, s4, Gr.refl _ _, d6, e7⟩, ?_⟩
                        rintro j' k' H7 ⟨μ7, s7, g7, d7, hv7⟩
                        cases k' with
                        | zero => cases hv7
                        | succ k' =>
                          unfold compV at hv7
                          cases f2 : items J1 s7 with
                          | none => simp only [f2] at hv7; cases hv7
                          | some us =>
                            simp only [f2] at hv7
                            obtain ⟨r1, r2⟩ := iR1 μ7 H7 s7 us g7 d7 f2
                            cases f3 : us[j']? with
                            | none =>
                              simp only [f3] at hv7
                              cases hv7
                              exact .inl ⟨r1 j' (by simpa using f3), _, _, g06.trans g7, d7, hv1⟩
                            | some u =>
                              simp only [f3] at hv7
                              obtain ⟨r3, r4⟩ := r2 j' u f3
                              let Ny : Hp → Prop := fun H8 => ∃ μ8 s8, Gr H6 μ6 H8 μ8 ∧ Gd K ww H8 μ8 s8 ∧ compV J1 g1 c1 e s1.length (wipeD σ2 vs1) k' (j' + 1) s8 = some s5
                              refine .inr ⟨r3, Ny, fun H8 q => ⟨k', Nat.lt_succ_self k', q⟩, fun x8 H8 hy8 => ?_⟩
                              obtain ⟨sm8, rx8⟩ := r4 x8 H8 hy8
                              have gs8 : Gr H7 μ7 H8 μ7 := ⟨Keeps.same sm8, [], by simp⟩
                              have d8 := d7.same sm8
                              cases f4 : g1 u (wipeD σ2 vs1) with
                              | none => simp only [f4] at hv7; cases hv7
                              | some σ8 =>
                                simp only [f4] at hv7
                                obtain ⟨b8, s8, h8, hv7⟩ := bnd_eq hv7
                                have inner : gg1 x8 (wipe τ2 vs1) H8 fun τ3 H5 => rdT K ww c1 τ3 H5 fun b H6 => if b = true then rdE K ww e τ3 H6 fun y H7 => ∃ acc, H7 Dp = some (.lst acc) ∧ acc.length < sizeLine ∧ Ny (upd H7 Dp (.lst (acc ++ [y]))) else Ny H6 := by
                                  refine ok1 H8 μ7 _ _ u x8 σ8 _ (ew1.m (g7.trans gs8)) rx8 f4 fun τ8 e8 => ?_
                                  refine ⟨μ7, s7, σ8, b8, s8, d8, e8, h8, fun μ9 H9 g9 d9 => ?_⟩
                                  have g10 := (g7.trans gs8).trans g9
                                  cases b8 with
                                  | false => exact ⟨μ9, s8, g10, d9, hv7⟩
                                  | true =>
                                    rw [if_pos rfl] at hv7
                                    show rdE K ww e τ8 H9 _
                                    obtain ⟨z, s10, h10, hv7⟩ := bnd_eq hv7
                                    refine ⟨μ9, s8, σ8, z, s10, d9, e8.m g9, h10, fun μ11 H11 wv g11 d11 r11 => ?_⟩
                                    cases f6 : getM s10 s1.length with
                                    | none => simp only [f6] at hv7; cases hv7
                                    | some acc =>
                                      simp only [f6] at hv7
                                      split at hv7
                                      · rename_i hl
                                        have hp11 := (g06.trans (g10.trans g11)).get hDp
                                        obtain ⟨us2, hH, rs⟩ := d11.getM hp11 f6
                                        have gw : Gr H11 μ11 (upd H11 Dp (.lst (us2 ++ [wv]))) μ11 := gr_write hH
                                        exact ⟨us2, hH, lim_lt (by rw [← rs.len]; exact hl), μ11, _, (g10.trans g11).trans gw, d11.write hp11 (getM_get f6) hH (rs.app (reps_cons r11 reps_nil)), hv7⟩
                                      · cases hv7
                                have hq := ow1 x8 _ _ _ inner
                                rw [wipe_wipe] at hq
                                exact hq
                have hq2 := ow x _ _ _ main
                rw [wipe_wipe] at hq2
                exact hq2
theorem se_comp2 {elt tg iter tg1 iter1 : Expr} {ifs ifs1 : List Expr} {scope : Scope} {own : List (Str × Nat)} {vs1 : List Nat} {pos : Pos} {i i1 : SJ} {gg gg1 : TG} {g g1 : Tg} {c c1 : ST} {e : SE} (hc : X.calm = true) (hN : X.N.Nodup) (hi : PI X tg iter (rdI X.K X.w i)) (ok : BlkOk X.N X.env.scope scope own) (hv : ∀ i ∈ vs1, i ∈ own.map (·.2))
    (hg : ∀ (s : Shared) (H : Hp) (C : Addr) (cl : List (Str × Addr)) (fp : List Addr), PG (X.blk s H scope (compEnvC scope cl C X.env) fp) tg gg) (okg : OkG X.K gg g) (ow : OwnG (own.map (·.2)) gg)
    (ht : ∀ (s : Shared) (H : Hp) (C : Addr) (cl : List (Str × Addr)) (fp : List Addr), PTs (X.blk s H scope (compEnvC scope cl C X.env) fp) ifs (rdT X.K X.w c))
    (hi1 : ∀ (s : Shared) (H : Hp) (C : Addr) (cl : List (Str × Addr)) (fp : List Addr), PI (X.blk s H scope (compEnvC scope cl C X.env) fp) tg1 iter1 (rdI X.K X.w i1))
    (hg1 : ∀ (s : Shared) (H : Hp) (C : Addr) (cl : List (Str × Addr)) (fp : List Addr), PG (X.blk s H scope (compEnvC scope cl C X.env) fp) tg1 gg1) (okg1 : OkG X.K gg1 g1) (ow1 : OwnG vs1 gg1)
    (ht1 : ∀ (s : Shared) (H : Hp) (C : Addr) (cl : List (Str × Addr)) (fp : List Addr), PTs (X.blk s H scope (compEnvC scope cl C X.env) fp) ifs1 (rdT X.K X.w c1))
    (he : ∀ (s : Shared) (H : Hp) (C : Addr) (cl : List (Str × Addr)) (fp : List Addr), PE (X.blk s H scope (compEnvC scope cl C X.env) fp) elt (rdE X.K X.w e)) (hs : ∀ x, foldedSetIterable iter X.env x = pure x := by intro _; rfl) (hs1 : ∀ env x, foldedSetIterable iter1 env x = pure x := by intro _ _; rfl) :
    PE X (.ListComp elt [⟨tg, iter, ifs, 0⟩, ⟨tg1, iter1, ifs1, 0⟩] scope pos) (rdE X.K X.w (comp2F (own.map (·.2)) vs1 i g c i1 g1 c1 e)) := (pe_lc2 hc hN hi ok hv hg ht hi1 hg1 ht1 he hs hs1).weak (rd_comp2 okg ow okg1 ow1)
theorem rd_asgC2 {vs vs1 : List Nat} {i i1 : SJ} {gg gg1 : TG} {g g1 : Tg} {c c1 : ST} {e : SE} {j : Nat} (ok : OkG K gg g) (ow : OwnG vs gg) (ok1 : OkG K gg1 g1) (ow1 : OwnG vs1 gg1) :
    ∀ Dn τ H, rdS K ww (asgS (nmG j) (comp2F vs vs1 i g c i1 g1 c1 e)) Dn τ H → tAsg (tLc2 (rdI K ww i) gg (rdT K ww c) (rdI K ww i1) gg1 (rdT K ww c1) (rdE K ww e) vs vs1) (gName j) Dn τ H := fun Dn τ H h => by
  have h2 := rd_asg (g := nmG j) (gg := gName j) (f := comp2F vs vs1 i g c i1 g1 c1 e) ok_name Dn τ H h
  exact rd_comp2 ok ow ok1 ow1 τ H _ h2
theorem s_setLc2 {i : Nat} {y : Str} {py : Pos} {elt tg iter tg1 iter1 : Expr} {ifs ifs1 : List Expr} {scope : Scope} {own : List (Str × Nat)} {vs1 : List Nat} {pos spos : Pos} {it it1 : SJ} {gg gg1 : TG} {g g1 : Tg} {c c1 : ST} {e : SE} (hc : X.calm = true) (hN : X.N.Nodup) (hi : PI X tg iter (rdI X.K X.w it)) (ok : BlkOk X.N X.env.scope scope own) (hv : ∀ i ∈ vs1, i ∈ own.map (·.2))
    (hg : ∀ (s : Shared) (H : Hp) (C : Addr) (cl : List (Str × Addr)) (fp : List Addr), PG (X.blk s H scope (compEnvC scope cl C X.env) fp) tg gg) (okg : OkG X.K gg g) (ow : OwnG (own.map (·.2)) gg)
    (ht : ∀ (s : Shared) (H : Hp) (C : Addr) (cl : List (Str × Addr)) (fp : List Addr), PTs (X.blk s H scope (compEnvC scope cl C X.env) fp) ifs (rdT X.K X.w c))
    (hi1 : ∀ (s : Shared) (H : Hp) (C : Addr) (cl : List (Str × Addr)) (fp : List Addr), PI (X.blk s H scope (compEnvC scope cl C X.env) fp) tg1 iter1 (rdI X.K X.w it1))
    (hg1 : ∀ (s : Shared) (H : Hp) (C : Addr) (cl : List (Str × Addr)) (fp : List Addr), PG (X.blk s H scope (compEnvC scope cl C X.env) fp) tg1 gg1) (okg1 : OkG X.K gg1 g1) (ow1 : OwnG vs1 gg1)
    (ht1 : ∀ (s : Shared) (H : Hp) (C : Addr) (cl : List (Str × Addr)) (fp : List Addr), PTs (X.blk s H scope (compEnvC scope cl C X.env) fp) ifs1 (rdT X.K X.w c1))
    (he : ∀ (s : Shared) (H : Hp) (C : Addr) (cl : List (Str × Addr)) (fp : List Addr), PE (X.blk s H scope (compEnvC scope cl C X.env) fp) elt (rdE X.K X.w e))
    (hy : X.N[i]? = some y := by rfl) (hyl : X.env.scope.names.lookup y = some .local := by rfl) (hsw : swapsWith (.ListComp elt [⟨tg, iter, ifs, 0⟩, ⟨tg1, iter1, ifs1, 0⟩] scope pos) (some (.Name y py)) spos.line X.env = pure true := by exact sw_true rfl rfl rfl (by decide +kernel)) (hs : ∀ x, foldedSetIterable iter X.env x = pure x := by intro _; rfl) (hs1 : ∀ env x, foldedSetIterable iter1 env x = pure x := by intro _ _; rfl) :
    PS X (.Assign [.Name y py] (.ListComp elt [⟨tg, iter, ifs, 0⟩, ⟨tg1, iter1, ifs1, 0⟩] scope pos) spos) (rdS X.K X.w (asgS (nmG i) (comp2F (own.map (·.2)) vs1 it g c it1 g1 c1 e))) := (ps_setLc2 hc hN hy hyl hsw hi ok hv hg ht hi1 hg1 ht1 he hs hs1).weak (rd_asgC2 okg ow okg1 ow1)
end
end Iv

namespace Iv
open PySem L2 PySem.Spec
/-! ### sorting, as a function: ints, texts -/
def leI (a b : Int) : Bool := decide (a ≤ b)
def sortI (l : List Int) : List Int := l.mergeSort leI
theorem sortI_perm (l : List Int) : (sortI l).Perm l := List.mergeSort_perm l leI
theorem sortI_le (l : List Int) : (sortI l).Pairwise (· ≤ ·) := by
  have h := List.pairwise_mergeSort (le := leI) (fun a b c h1 h2 => by simp only [leI, decide_eq_true_eq] at *; omega) (fun a b => by simp only [leI, Bool.or_eq_true, decide_eq_true_eq]; omega) l
  exact h.imp fun h => by simpa [leI] using h
theorem sortI_uniq {l m : List Int} (p : m.Perm l) (s : m.Pairwise (· ≤ ·)) : m = sortI l :=
  List.Perm.eq_of_pairwise (le := (· ≤ ·)) (fun a b _ _ h1 h2 => Int.le_antisymm h1 h2) s (sortI_le l) (p.trans (sortI_perm l).symm)
def leS (a b : Str) : Bool := decide (a.cps.toList ≤ b.cps.toList)
def sortT (l : List Str) : List Str := l.mergeSort leS
theorem sortT_perm (l : List Str) : (sortT l).Perm l := List.mergeSort_perm l leS
theorem leS_trans (a b c : Str) (h1 : leS a b = true) (h2 : leS b c = true) : leS a c = true := by
  simp only [leS, decide_eq_true_eq] at *
  exact List.le_trans h1 h2
theorem sortT_le (l : List Str) : (sortT l).Pairwise (fun a b => leS a b = true) :=
  List.pairwise_mergeSort leS_trans (fun a b => by simp only [leS, Bool.or_eq_true, decide_eq_true_eq]; exact List.le_total _ _) l
theorem str_ext {a b : Str} (h : a.cps.toList = b.cps.toList) : a = b := by
  cases a; cases b
  congr 1
  exact Array.toList_inj.mp h
theorem rising_le : ∀ (l : List Str) (p : Str), PyProof.Rows.risingS p l = true → (p :: l).Pairwise (fun a b => leS a b = true)
  | [], p, _ => List.pairwise_singleton _ _
  | x :: l, p, h => by
    simp only [PyProof.Rows.risingS, Bool.and_eq_true] at h
    have h1 : leS p x = true := by
      simp only [leS, decide_eq_true_eq]
      have h0 := h.1
      rw [PyProof.Rows.ltCps_eq] at h0
      exact List.not_lt.mp (by simpa using h0)
    have h2 := rising_le l x h.2
    refine List.pairwise_cons.mpr ⟨fun y hy => ?_, h2⟩
    rcases List.mem_cons.mp hy with z | z
    · rw [z]; exact h1
    · exact leS_trans _ _ _ h1 ((List.pairwise_cons.mp h2).1 y z)
theorem sorted_le {l : List Str} (h : PyProof.Rows.sortedS l = true) : l.Pairwise (fun a b => leS a b = true) := by
  cases l with
  | nil => exact List.Pairwise.nil
  | cons x l => exact rising_le l x h
theorem sortT_uniq {l m : List Str} (p : m.Perm l) (s : PyProof.Rows.sortedS m = true) : m = sortT l :=
  List.Perm.eq_of_pairwise (le := fun a b => leS a b = true) (fun a b _ _ h1 h2 => by
    simp only [leS, decide_eq_true_eq] at h1 h2
    exact str_ext (List.le_antisymm h1 h2)) (sorted_le s) (sortT_le l) (p.trans (sortT_perm l).symm)

/-! ### sets as tracked things -/
theorem ks_ok {w : World} {P : Program} {H : Hp} {h : Heap} {a : Addr} {ks : List Key} (R : KSet w h a ks) : ObjOk P w H h a (KSetO w a ks) := by
  have ⟨ob, _, _, _, ⟨e1, _⟩, _⟩ := R
  exact ⟨R, ⟨ob, e1⟩, fun h1 h2 p k => KSet.keep p k⟩
section
variable {X : Cx} {K : PySem.W.Frag} {ww : World}
theorem ks_get {pins : List (Addr × Obj)} {σ : L2.St} {H : Hp} {s : Shared} {a : Addr} {ks : List Key} (I : Inv X pins σ H s) (ha : H a = some (KSetO X.w a ks)) : KSet X.w s.heap a ks := (I.hok a _ ha).1
theorem key_rel {k : Key} {u : Value} (r : RelV (kV k) u) : keyIs k u = true := by
  cases k with
  | inl i => obtain ⟨t, rfl⟩ := r; exact keyIs_int i t
  | inr x => obtain ⟨t, rfl⟩ := r; exact keyIs_str x t
/-- the members, as data -/
theorem keyD_rep {H : Hp} {μ : List Addr} {d : D} {v : V} {k : Key} (r : Rep K H μ d v) (e : keyD d = some k) : v = kV k := by
  cases d with
  | int i => cases e; simp only [Rep] at r; exact r
  | str x => cases e; simp only [Rep] at r; exact r
  | _ => cases e
def ofKey : Key → D
  | .inl i => .int i
  | .inr x => .str x
theorem keyD_of {d : D} {k : Key} (e : keyD d = some k) : d = ofKey k := by
  cases d with
  | int i => cases e; rfl
  | str x => cases e; rfl
  | _ => cases e
theorem keysD_of : ∀ {ds : List D} {ks : List Key}, keysD ds = some ks → ds = ks.map ofKey
  | [], _, e => by cases e; rfl
  | d :: ds, ks, e => by
    simp only [keysD] at e
    cases e1 : keyD d with
    | none => rw [e1] at e; cases e
    | some k =>
      cases e2 : keysD ds with
      | none => rw [e1, e2] at e; cases e
      | some ls =>
        rw [e1, e2] at e
        cases e
        rw [keyD_of e1, keysD_of e2]
        rfl
theorem keyD_ofKey (k : Key) : keyD (ofKey k) = some k := by cases k <;> rfl
theorem keysD_ofKey : ∀ ks : List Key, keysD (ks.map ofKey) = some ks
  | [] => rfl
  | k :: ks => by rw [List.map_cons, keysD, keyD_ofKey, keysD_ofKey ks]; rfl
/-! set() -/
def rNewSet (w : World) : List V → Hp → VK → Prop := fun xs H Q => xs = [] ∧ ∀ q, H q = none → Q (.ref q) (upd H q (KSetO w q []))
theorem cr_newSet : CallR X (.type "set") (rNewSet X.w) := by
  intro pins s σ H xs us Q I r h
  obtain ⟨rfl, q⟩ := h
  cases r
  refine setR_new fun _ => ?_
  refine ⟨.ref _, _, I.laid (t' := s.toks) (o := KSetO X.w s.heap.objs.size []) (fun b u e => Heap.get?_push_of_some _ e) (Nat.le_refl _) (ks_ok (kset_fresh s.heap X.w)), rfl, q _ (I.hok.fresh (Nat.le_refl _))⟩
def newSetF : SE := fun _ st => some (.loc st.length, st ++ [.set []])
@[simp] theorem newSetF_eq {σ : Sl} {st : Sto} : newSetF σ st = some (.loc st.length, st ++ [.set []]) := rfl
theorem new_set {H : Hp} {μ : List Addr} {st : Sto} {ks : List Key} {Q : VK} (gd : Gd K ww H μ st) (k : ∀ μ' H' v, Gr H μ H' μ' → Gd K ww H' μ' (st ++ [.set (ks.map ofKey)]) → Rep K H' μ' (.loc st.length) v → Q v H') :
    ∀ p, H p = none → Q (.ref p) (upd H p (KSetO ww p ks)) := fun p hp => by
  have gr : Gr H μ (upd H p (KSetO ww p ks)) (μ ++ [p]) := gr_new hp
  refine k _ _ _ gr (gd.newO (o := .set (ks.map ofKey)) hp ⟨ks, keysD_ofKey ks, upd_same⟩) (rep_loc ?_)
  rw [← gd.len, List.getElem?_append_right (Nat.le_refl _), Nat.sub_self]
  rfl
theorem e_newSet {p pos : Pos} (hg : Gl X "set") (hm : X.mg "set" = none) : PE X (.Call (.Name "set" p) [] [] pos) (rdE X.K X.w newSetF) :=
  (pe_callTy0 cr_newSet hg hm (by decide +kernel)).weak fun τ H Q ⟨μ, st, σ, d, st', gd, er, hv, k⟩ => by
    cases hv
    exact ⟨rfl, new_set (ks := []) gd k⟩
/-! s.add(x), x in s -/
def getS (st : Sto) (n : Nat) : Option (List D) := match st[n]? with
  | some (.set xs) => some xs
  | _ => none
theorem getS_get {st : Sto} {n : Nat} {xs : List D} (h : getS st n = some xs) : st[n]? = some (.set xs) := by
  unfold getS at h
  split at h
  · rename_i e; cases h; exact e
  · cases h
theorem getS_of {st : Sto} {n : Nat} {xs : List D} (h : st[n]? = some (.set xs)) : getS st n = some xs := by unfold getS; rw [h]
theorem Gd.getS {H : Hp} {μ : List Addr} {st : Sto} (g : Gd K ww H μ st) {n : Nat} {p : Addr} {xs : List D} (hp : μ[n]? = some p) (h : Iv.getS st n = some xs) : ∃ ks, xs = ks.map ofKey ∧ H p = some (KSetO ww p ks) := by
  obtain ⟨ks, h1, h2⟩ := g.ob n p _ hp (getS_get h)
  exact ⟨ks, keysD_of h1, h2⟩
def rSetAdd (w : World) : V → List V → Hp → VK → Prop := fun x xs H Q => ∃ (a : Addr) (k : Key) (ks : List Key), x = V.ref a ∧ xs = [kV k] ∧ H a = some (KSetO w a ks) ∧ ks.length + 1 < scanBound ∧ Q .non (upd H a (KSetO w a (addK ks k)))
theorem mt_setAdd : MtR X "set.add" (rSetAdd X.w) := by
  intro pins s σ H x xs v us Q I rx rxs h
  obtain ⟨a, k, ks, rfl, rfl, ha, room, q⟩ := h
  cases rx
  cases rxs with
  | cons ry rt =>
    cases rt
    refine kset_add (key_rel ry) (ks_get I ha) room fun h' sb new => ?_
    have he : ∃ u, h'.get? a = some u := by
      have ⟨ob, _, _, _, ⟨e1, _⟩, _⟩ := new
      exact ⟨ob, e1⟩
    exact ⟨.non, _, I.write (e := a) (t' := s.toks + 1) (by rw [ha]; trivial) (.inl rfl) (fun b u hb hu => (sb.2 b hb).trans hu) he (ks_ok new), rfl, q⟩
def tySet (w : World) (x : V) (H : Hp) : Prop := ∃ a ks, x = .ref a ∧ H a = some (KSetO w a ks)
theorem ty_set : TyOk X "set" (tySet X.w) := fun pins σ H s x v I r ⟨a, ks, ex, h⟩ => by
  subst ex
  cases r
  have S := (ks_get I h).setOf (P := X.prog)
  exact ⟨S.typeIs, S.noDict⟩
def saddF (f : SE) (g : SA) : SE := fun σ st => bnd (f σ st) fun x s1 => match x with
  | .loc n => if (Iv.getS s1 n).isSome = true then bnd (g σ s1) fun ys s2 => (match ys, Iv.getS s2 n with
      | [y], some xs => (match keyD y, keysD xs with
        | some k, some ks => if ks.length < 4000 then some (.non, s2.set n (.set ((addK ks k).map ofKey))) else none
        | _, _ => none)
      | _, _ => none) else none
  | _ => none
theorem saddF_eq {f : SE} {g : SA} {σ : Sl} {st : Sto} : saddF f g σ st = bnd (f σ st) fun x s1 => match x with
  | .loc n => if (Iv.getS s1 n).isSome = true then bnd (g σ s1) fun ys s2 => (match ys, Iv.getS s2 n with
      | [y], some xs => (match keyD y, keysD xs with
        | some k, some ks => if ks.length < 4000 then some (.non, s2.set n (.set ((addK ks k).map ofKey))) else none
        | _, _ => none)
      | _, _ => none) else none
  | _ => none := rfl
theorem e_sadd {o e : Expr} {apos cpos : Pos} {f : SE} {g : SA} (ho : PE X o (rdE X.K X.w f)) (ha : PA X [e] (rdA X.K X.w g))
    (hbase : attributeBase o "add" X.env (eval o X.env) = eval o X.env := by rfl)
    (hfew : ((backTo cpos (starEach [e] X.env)).all (fun x => !x.1) && (backToKw cpos (keywordEach [] X.env)).all (fun x => x.1.isSome)
      && decide ([e].length + ([] : List Keyword).length + (if ([] : List Keyword).isEmpty then 0 else 1) < 30)) = true := by rfl)
    (hline : (apos.endLine == cpos.line) = true := by rfl) (hs : starEach [e] X.env = (false, eval e X.env) :: starEach [] X.env := by rfl) :
    PE X (.Call (.Attribute o "add" apos) [e] [] cpos) (rdE X.K X.w (saddF f g)) :=
  (pe_mG ty_set PySem.F.plainAttrs_set PySem.F.slot_set_add PySem.F.type_set_add mt_setAdd ho ha hbase hfew hline hs rfl).weak fun τ H Q ⟨μ, st, σ, d', st', gd, er, hv, k⟩ => by
    rw [saddF_eq] at hv
    obtain ⟨x, s1, h1, hv⟩ := bnd_eq hv
    refine ⟨μ, st, σ, x, s1, gd, er, h1, fun μ1 H1 v g1 d1 r1 => ?_⟩
    split at hv
    · rename_i n
      split at hv
      · rename_i hsm
        obtain ⟨ys, s2, h2, hv⟩ := bnd_eq hv
        simp only [Rep] at r1
        obtain ⟨p, rfl, hp⟩ := r1
        cases e1 : Iv.getS s1 n with
        | none => rw [e1] at hsm; cases hsm
        | some zs =>
          obtain ⟨ks1, _, hH1⟩ := d1.getS hp e1
          refine ⟨⟨p, ks1, rfl, hH1⟩, μ1, s1, σ, ys, s2, d1, er.m g1, h2, fun μ2 H2 vs g2 d2 r2 => ?_⟩
          split at hv
          · rename_i y xs e3
            split at hv
            · rename_i j ks e4 e5
              split at hv
              · rename_i hl
                cases hv
                obtain ⟨ks2, e6, hH2⟩ := d2.getS (g2.get hp) e3
                rw [e6, keysD_ofKey] at e5
                cases e5
                obtain ⟨u, rfl, ru⟩ := reps1 r2
                have eu := keyD_rep ru e4
                have wr := d2.writeO (o := .set xs) (o2 := .set ((addK ks j).map ofKey)) (u := KSetO X.w p (addK ks j)) (g2.get hp) (getS_get e3) rfl rfl fun _ => ⟨_, keysD_ofKey _, upd_same⟩
                exact ⟨p, j, ks, rfl, by rw [eu], hH2, (show ks.length + 1 < 4096 by omega), k μ2 _ _ ((g1.trans g2).trans wr.1) wr.2 (by simp only [Rep])⟩
              · cases hv
            · cases hv
          · cases hv
      · cases hv
    · cases hv
def rSetIn (w : World) (neg : Bool) : V → V → Hp → VK → Prop := fun x y H Q => ∃ (k : Key) (a : Addr) (ks : List Key), x = kV k ∧ y = V.ref a ∧ H a = some (KSetO w a ks) ∧ Q (.bl (hasK ks k != neg)) H
theorem or_setIn : OpR X (compareOp .In) (rSetIn X.w false) := by
  intro pins s σ H x y v u Q I rx ry h
  obtain ⟨k, a, ks, rfl, rfl, ha, q⟩ := h
  cases ry
  rw [Bool.bne_false] at q
  exact PySem.wpAny_inSet_of (kV_is rx) (key_scannable (key_rel rx)) ((ks_get I ha).setOf (P := X.prog)) ⟨.bl (hasK ks k), H, I.tok _, rfl, q⟩
theorem or_setNotIn : OpR X (compareOp .NotIn) (rSetIn X.w true) := by
  intro pins s σ H x y v u Q I rx ry h
  obtain ⟨k, a, ks, rfl, rfl, ha, q⟩ := h
  cases ry
  rw [Bool.bne_true] at q
  exact PySem.wpAny_notInSet_of (kV_is rx) (key_scannable (key_rel rx)) ((ks_get I ha).setOf (P := X.prog)) ⟨.bl (!hasK ks k), H, I.tok _, rfl, q⟩
def sinO (neg : Bool) : Op2 := fun x y st => match y with
  | .loc n => (match keyD x, Iv.getS st n with
    | some k, some xs => (keysD xs).map fun ks => (.bl (hasK ks k != neg), st)
    | _, _ => none)
  | _ => none
theorem sinO_eq {neg : Bool} {x : D} {k : Key} {n : Nat} {st : Sto} {ks : List Key} (e : keyD x = some k) (h : Iv.getS st n = some (ks.map ofKey)) : sinO neg x (.loc n) st = some (.bl (hasK ks k != neg), st) := by
  simp only [sinO, e, h, keysD_ofKey, Option.map_some]
theorem ok_setIn (neg : Bool) : Ok2 K ww (rSetIn ww neg) (sinO neg) := by
  intro H μ st x y vx vy d st' Q g rx ry hv k
  unfold sinO at hv
  split at hv
  · rename_i n
    simp only [Rep] at ry
    obtain ⟨p, rfl, hp⟩ := ry
    split at hv
    · rename_i j xs e1 e2
      obtain ⟨ks, e3, hH⟩ := g.getS hp e2
      rw [e3, keysD_ofKey] at hv
      cases hv
      exact ⟨j, p, ks, keyD_rep rx e1, rfl, hH, here k g (by simp only [Rep])⟩
    · cases hv
  · cases hv
theorem sin_bl {neg : Bool} : ∀ x y st d st', sinO neg x y st = some (d, st') → ∃ b, d = .bl b := fun x y st d st' h => by
  unfold sinO at h
  split at h
  · split at h
    · rename_i n _ _ j xs _ _
      cases e : keysD xs with
      | none => rw [e] at h; cases h
      | some ks => rw [e] at h; cases h; exact ⟨_, rfl⟩
    · cases h
  · cases h
theorem cm_sin : Cmp X .In (sinO false) := ⟨⟨_, or_setIn, ok_setIn false⟩, sin_bl⟩
theorem cm_snotin : Cmp X .NotIn (sinO true) := ⟨⟨_, or_setNotIn, ok_setIn true⟩, sin_bl⟩
/-! ### sorted(..) of a list or a set, of ints, of texts -/
def sortD (xs : List D) : Option (List D) := match intsD xs with
  | some is => some ((sortI is).map .int)
  | none => (strsD xs).map fun ts => (sortT ts).map .str
theorem ints_map : ∀ {xs : List D} {is : List Int}, intsD xs = some is → xs = is.map .int
  | [], _, h => by cases h; rfl
  | x :: xs, is, h => by
    cases x with
    | int i =>
      simp only [intsD] at h
      cases e : intsD xs with
      | none => rw [e] at h; cases h
      | some cs => rw [e] at h; cases h; rw [ints_map e]; rfl
    | _ => cases h
theorem ints_eq {is : List Int} : intsD (is.map .int) = some is := intsD_map is
theorem strsD_map : ∀ ts : List Str, strsD (ts.map .str) = some ts
  | [] => rfl
  | t :: ts => by rw [List.map_cons, strsD, strsD_map ts]; rfl
theorem sortD_ints (is : List Int) : sortD (is.map .int) = some ((sortI is).map .int) := by simp only [sortD, intsD_map]
theorem sortD_strs (ts : List Str) : sortD (ts.map .str) = some ((sortT ts).map .str) := by
  cases ts with
  | nil => simp [sortD, intsD, sortI, sortT]
  | cons t ts =>
    have e : intsD ((t :: ts).map .str) = none := rfl
    simp only [sortD, e, strsD_map, Option.map_some]
end
/-! the machine: texts of a set -/
section
open PyProof.Rows
variable {P : Program} {w : World} {A : Around} {E : Value → Shared → Prop} {s : Shared} {a : Addr}
def txOf : Value → Str
  | .str x _ => x
  | _ => Str.empty
theorem txs_are : ∀ (l : List Value), (∀ v ∈ l, ∃ x t, v = Value.str x t) → StrsAre l (l.map txOf)
  | [], _ => .nil
  | v :: l, h => by
    obtain ⟨x, t, rfl⟩ := h v List.mem_cons_self
    exact .cons x t (txs_are l fun u hu => h u (List.mem_cons_of_mem _ hu))
theorem kset_sortedS {ts : List Str} {Q : Value → Shared → Prop} (R : KSet w s.heap a (ts.map Sum.inr)) (hh : A.handled = none)
    (hQ : ∀ s2 q (out : Array Value) (c : Nat) (us : List Str), (∀ b o, s.heap.get? b = some o → s2.heap.get? b = some o) → s2.gens = s.gens → s2.os = s.os → s.heap.objs.size ≤ q →
      s2.heap.get? q = some (seqObj "list" out c) → StrsAre out.toList us → sortedS us = true → us.Perm ts → Q (.ref q) s2) :
    wpAny (model P w) A (call (.builtin "sorted") [.ref a]) Q E s := by
  obtain ⟨ob, es, ep, tb, ⟨e1, e2, e3⟩, ⟨g, p, nd⟩, bz, f, r, l⟩ := R
  refine Calls.call_function_entry kind_sorted plain_sorted entry_sorted (args_sorted1 _) ?_
  unfold Builtin.«sorted»
  refine wpAny_bind (m := checkCount "sorted" 1 1 _) (wpAny_pure (wpAny_bind (collect_set (A := A.in1) hh ⟨ob, e1, e2.1, e3⟩ f bz r l fun s1 vs k1 z1 g1 o1 pm => ?_)))
  have kv : (vs.map kyOf).Perm (ts.map Sum.inr) := by
    have q := pm.map kyOf
    rw [List.map_map] at q
    exact q.trans p
  have lv : vs.length ≤ sizeLine := by
    rw [pm.length_eq, List.length_map, Array.length_toList]
    exact fits_of_scanBound bz
  have hT : ∀ v ∈ vs, ∃ x t, v = Value.str x t := fun v hv => by
    obtain ⟨x, hx, rfl⟩ := List.mem_map.mp (pm.mem_iff.mp hv)
    obtain ⟨y, _, ei⟩ := List.mem_map.mp (kv.mem_iff.mp (List.mem_map_of_mem hv))
    have q := (g x hx).1
    rw [← ei] at q
    rcases keyIs_shape q with ⟨i, t, z, _⟩ | ⟨y2, t, _, z⟩
    · cases z
    · exact ⟨y2, t, z⟩
  have hS := txs_are vs hT
  have pr : (vs.map txOf).Perm ts := by
    have q2 := kv.map (fun k : Key => match k with | .inl _ => Str.empty | .inr x => x)
    rw [List.map_map, List.map_map] at q2
    have ea : ((fun k : Key => match k with | .inl _ => Str.empty | .inr x => x) ∘ Sum.inr) = (id : Str → Str) := rfl
    rw [ea, List.map_id] at q2
    have eb : vs.map ((fun k : Key => match k with | .inl _ => Str.empty | .inr x => x) ∘ kyOf) = vs.map txOf := List.map_congr_left fun v hv => by
      obtain ⟨x, t, rfl⟩ := hT v hv
      rfl
    rwa [eb] at q2
  refine wpAny_bind (wpAny_newList ?_ lv)
  have hoL : (s1.heap.push (seqObj "list" vs.toArray 0)).get? s1.heap.objs.size = some (seqObj "list" vs.toArray 0) := Heap.get?_push_size _ rfl
  refine wpAny_bind (wpAny_holding (wpAny_call_entry slot_list_sort ⟨_, hoL, rfl⟩ entry_list_sort (list_sort_treeKAny strKind_oneLt hoL hS.keysOf (fun v₁ v₂ rest e => keyKind_strs (by rw [← e]; exact hS)) lv fun st' hp hs => ⟨_, rfl, ?_⟩) (args_list_sort _)))
  obtain ⟨us, a1, a2, a3⟩ := sorted_out_str hS hp hs
  obtain ⟨c, hc⟩ := sortedHeap_at (vs := vs) (out := (arrOf st').map (·.2)) hoL
  refine wpAny_pure ⟨_, rfl, hQ _ s1.heap.objs.size _ c us (fun b u q => ?_) g1 o1 z1 hc a1 a3 (a2.trans pr)⟩
  have q2 := k1 b u q
  have lt := Heap.lt_size q2
  show (sortedHeap (s1.heap.push (seqObj "list" vs.toArray 0)) s1.heap.objs.size vs _).get? b = some u
  rw [sortedHeap_old (Nat.ne_of_lt lt) (by rw [size_push']; exact Nat.lt_succ_of_lt lt)]
  exact Heap.get?_push_of_some _ q2
end
section
variable {X : Cx} {K : PySem.W.Frag} {ww : World}
def rSrtT (K : PySem.W.Frag) : List V → Hp → VK → Prop := fun vs H Q => ∃ (a : Addr) (ts : List Str), vs = [V.ref a] ∧ SqL K H a (ts.map V.str) ∧ ∀ (us : List Str) (p : Addr), us.Perm ts → PyProof.Rows.sortedS us = true → H p = none → Q (.ref p) (upd H p (.lst (us.map V.str)))
theorem cr_srtT : CallR X (.builtin "sorted") (rSrtT X.K) := by
  intro pins s σ H vs us Q I r h
  obtain ⟨a, xs, rfl, hs, q⟩ := h
  obtain ⟨its, rv, hl, hz⟩ := I.list hs
  rw [Vals.ref1 r]
  refine PyProof.Rows.sorted_strsAny hl.isList rv.strs (by rw [← rv.length]; exact hz) fun out ys h1 h2 h3 => ?_
  obtain ⟨ep, he'⟩ := PyProof.Rows.sortedAll_at s.heap its out
  have hlen : (ys.map V.str).length ≤ sizeLine := by rw [List.length_map, h2.length_eq]; rw [List.length_map] at hz; exact hz
  exact ⟨.ref _, upd H (s.heap.objs.size + 1) (.lst (ys.map V.str)), I.laid (t' := s.toks) (fun _ _ => PyProof.Rows.sortedAll_old) (Nat.le_succ _) ⟨hlen, out.toList, ep, vals_of_strs h1, he'⟩, rfl, q ys _ h2 h3 (I.hok.fresh (Nat.le_succ _))⟩
def rSrtSI (w : World) : List V → Hp → VK → Prop := fun vs H Q => ∃ (a : Addr) (ns : List Int), vs = [V.ref a] ∧ H a = some (KSetO w a (ns.map Sum.inl)) ∧ ns.length ≤ LIM ∧ ∀ (ms : List Int) (p : Addr), ms.Perm ns → ms.Pairwise (· ≤ ·) → H p = none → Q (.ref p) (upd H p (.lst (ms.map V.int)))
def rSrtSS (w : World) : List V → Hp → VK → Prop := fun vs H Q => ∃ (a : Addr) (ts : List Str), vs = [V.ref a] ∧ H a = some (KSetO w a (ts.map Sum.inr)) ∧ ts.length ≤ LIM ∧ ∀ (us : List Str) (p : Addr), us.Perm ts → PyProof.Rows.sortedS us = true → H p = none → Q (.ref p) (upd H p (.lst (us.map V.str)))
theorem sh_eta {s s2 : Shared} (o : s2.os = s.os) : s2 = { s with heap := s2.heap, gens := s2.gens, drawn := s2.drawn, toks := s2.toks } := by
  cases s2; cases s; cases o; rfl
theorem cr_srtSI (hc : X.calm = true) : CallR X (.builtin "sorted") (rSrtSI X.w) := by
  intro pins s σ H vs us Q I r h
  obtain ⟨a, ns, rfl, ha, hL, q⟩ := h
  rw [Vals.ref1 r]
  refine kset_sortedI (ks_get I ha) (I.ok.hd hc) fun s2 p out c ms k g o hp hg hi hs hm => ?_
  have hlen : (ms.map V.int).length ≤ sizeLine := by rw [List.length_map, hm.length_eq]; exact lim_ok hL
  have J : Inv X pins σ (upd H p (.lst (ms.map V.int))) { s with heap := s2.heap, gens := s2.gens, drawn := s2.drawn, toks := s2.toks } :=
    I.call (ch := []) (Un.laid k hp (I.hok.fresh hp)) (I.hok.laid k hp ⟨hlen, out.toList, c, vals_of_ints hi, hg⟩) (by rw [g]; exact I.bare) (fun _ z => nomatch z)
  rw [sh_eta o]
  exact ⟨.ref p, _, J, rfl, q ms p hm hs (I.hok.fresh hp)⟩
theorem cr_srtSS (hc : X.calm = true) : CallR X (.builtin "sorted") (rSrtSS X.w) := by
  intro pins s σ H vs us Q I r h
  obtain ⟨a, ts, rfl, ha, hL, q⟩ := h
  rw [Vals.ref1 r]
  refine kset_sortedS (ks_get I ha) (I.ok.hd hc) fun s2 p out c ms k g o hp hg hi hs hm => ?_
  have hlen : (ms.map V.str).length ≤ sizeLine := by rw [List.length_map, hm.length_eq]; exact lim_ok hL
  have J : Inv X pins σ (upd H p (.lst (ms.map V.str))) { s with heap := s2.heap, gens := s2.gens, drawn := s2.drawn, toks := s2.toks } :=
    I.call (ch := []) (Un.laid k hp (I.hok.fresh hp)) (I.hok.laid k hp ⟨hlen, out.toList, c, vals_of_strs hi, hg⟩) (by rw [g]; exact I.bare) (fun _ z => nomatch z)
  rw [sh_eta o]
  exact ⟨.ref p, _, J, rfl, q ms p hm hs (I.hok.fresh hp)⟩
theorem keys_inl : ∀ {ks : List Key} {is : List Int}, ks.map ofKey = is.map D.int → ks = is.map Sum.inl
  | [], [], _ => rfl
  | [], _ :: _, h => by cases h
  | _ :: _, [], h => by cases h
  | k :: ks, i :: is, h => by
    simp only [List.map_cons, List.cons.injEq] at h
    cases k with
    | inl j => cases h.1; rw [List.map_cons, keys_inl h.2]
    | inr x => cases h.1
theorem keys_inr : ∀ {ks : List Key} {is : List Str}, ks.map ofKey = is.map D.str → ks = is.map Sum.inr
  | [], [], _ => rfl
  | [], _ :: _, h => by cases h
  | _ :: _, [], h => by cases h
  | k :: ks, i :: is, h => by
    simp only [List.map_cons, List.cons.injEq] at h
    cases k with
    | inl j => cases h.1
    | inr x => cases h.1; rw [List.map_cons, keys_inr h.2]
theorem reps_ints' {H : Hp} {μ : List Addr} (ns : List Int) : Reps K H μ (ns.map D.int) (ns.map V.int) := reps_ints ns
theorem sortD_cases {xs ys : List D} (h : sortD xs = some ys) : (∃ is, xs = is.map D.int ∧ ys = (sortI is).map .int) ∨ ∃ ts, xs = ts.map D.str ∧ ys = (sortT ts).map .str := by
  unfold sortD at h
  cases e : intsD xs with
  | some is =>
    rw [e] at h
    cases h
    exact .inl ⟨is, ints_map e, rfl⟩
  | none =>
    rw [e] at h
    cases e2 : strsD xs with
    | none => rw [e2] at h; cases h
    | some ts =>
      rw [e2] at h
      cases h
      exact .inr ⟨ts, strsD_eq e2, rfl⟩
def sortedB : OpN
  | [.loc n], st => match st[n]? with
    | some (.lst xs) => (sortD xs).map fun ys => (.loc st.length, st ++ [.lst ys])
    | some (.frz xs) => (sortD xs).map fun ys => (.loc st.length, st ++ [.lst ys])
    | some (.set xs) => if xs.length ≤ LIM then (sortD xs).map fun ys => (.loc st.length, st ++ [.lst ys]) else none
    | _ => none
  | _, _ => none
theorem ok_sorted : OkN K ww (fun vs H Q => (rSortedI K vs H Q ∨ rSrtT K vs H Q) ∨ (rSrtSI ww vs H Q ∨ rSrtSS ww vs H Q)) sortedB := by
  intro H μ st xs vs d st' Q g r hv k
  unfold sortedB at hv
  split at hv
  · rename_i n
    obtain ⟨v, rfl, rv⟩ := reps1 r
    simp only [Rep] at rv
    obtain ⟨p, rfl, hp⟩ := rv
    have list : ∀ xs, getL st n = some xs → (sortD xs).map (fun ys => (D.loc st.length, st ++ [OB.lst ys])) = some (d, st') → rSortedI K [.ref p] H Q ∨ rSrtT K [.ref p] H Q := fun xs e hv => by
      obtain ⟨ws, s, rs⟩ := g.getL hp e
      cases e2 : sortD xs with
      | none => rw [e2] at hv; cases hv
      | some ys =>
        rw [e2] at hv
        cases hv
        rcases sortD_cases e2 with ⟨is, rfl, rfl⟩ | ⟨ts, rfl, rfl⟩
        · rw [ints_are rs (intsD_map is)] at s
          exact .inl ⟨p, is, rfl, s, fun ms q pm ps hq => by rw [sortI_uniq pm ps]; exact new_lst g (reps_ints _) k q hq⟩
        · rw [strs_of rs (strsD_map ts)] at s
          exact .inr ⟨p, ts, rfl, s, fun ms q pm ps hq => by rw [sortT_uniq pm ps]; exact new_lst g (reps_strs _) k q hq⟩
    split at hv
    · rename_i ys e
      exact .inl (list ys (by unfold getL; rw [e]) hv)
    · rename_i ys e
      exact .inl (list ys (by unfold getL; rw [e]) hv)
    · rename_i ys e
      split at hv
      · rename_i hL
        obtain ⟨ks, e1, hH⟩ := g.getS hp (getS_of e)
        cases e2 : sortD ys with
        | none => rw [e2] at hv; cases hv
        | some zs =>
          rw [e2] at hv
          cases hv
          rcases sortD_cases e2 with ⟨is, e3, rfl⟩ | ⟨ts, e3, rfl⟩
          · rw [keys_inl (e1.symm.trans e3)] at hH
            exact .inr (.inl ⟨p, is, rfl, hH, by rw [e3, List.length_map] at hL; exact hL, fun ms q pm ps hq => by rw [sortI_uniq pm ps]; exact new_lst g (reps_ints _) k q hq⟩)
          · rw [keys_inr (e1.symm.trans e3)] at hH
            exact .inr (.inr ⟨p, ts, rfl, hH, by rw [e3, List.length_map] at hL; exact hL, fun ms q pm ps hq => by rw [sortT_uniq pm ps]; exact new_lst g (reps_strs _) k q hq⟩)
      · cases hv
    · cases hv
  · cases hv
theorem e_sorted {p pos : Pos} {e : Expr} {f : SA} (hc : X.calm = true) (hg : Gl X "sorted") (hm : X.mg "sorted" = none) (ha : PA X [e] (rdA X.K X.w f)) (he : starEach [e] X.env = (false, eval e X.env) :: starEach [] X.env := by rfl) : PE X (.Call (.Name "sorted" p) [e] [] pos) (rdE X.K X.w (appF sortedB f)) :=
  se_callB (CallR.or (CallR.or cr_sortedI cr_srtT) (CallR.or (cr_srtSI hc) (cr_srtSS hc))) ok_sorted hg hm (by decide +kernel) ha (he := he)
end
end Iv

namespace Iv
open PySem L2 PySem.Spec
/-! ### {e for x in it if c}: a new set -/
/-- what each turn of such a block owes: U the turn's measure, Z the set -/
def tSet (w : World) (wi : TI) (g : TG) (tt : TT) (te : TE) (vs : List Nat) : TE := fun σ H Q => wi σ H fun J H1 => ∀ Z, H1 Z = none → ∃ U : Nat → Nat → Hp → Prop, (∃ m, U 0 m (upd H1 Z (KSetO w Z []))) ∧ ∀ j m G, U j m G →
  (J.stop j G ∧ Q (.ref Z) G) ∨ (J.go j G ∧ ∃ V' : Hp → Prop, (∀ G', V' G' → ∃ m', m' < m ∧ U (j + 1) m' G') ∧ ∀ x G', J.yld j G x G' → g x (wipe σ vs) G' fun σ2 G2 => wipe σ2 vs = wipe σ vs ∧ tt σ2 G2 fun b G3 =>
    if b = true then te σ2 G3 fun y G4 => ∃ (k : Key) (ks : List Key), y = kV k ∧ G4 Z = some (KSetO w Z ks) ∧ ks.length + 1 < scanBound ∧ V' (upd G4 Z (KSetO w Z (addK ks k))) else V' G3)
section
variable {X : Cx} {K : PySem.W.Frag} {ww : World}
theorem add_key {pins : List (Addr × Obj)} {σ : L2.St} {H : Hp} {s : Shared} {E : Value → Shared → Prop} {Z : Addr} {ks : List Key} {k : Key} {u : Value} {Q : Value → Shared → Prop} (I : Inv X pins σ H s) (hZ : H Z = some (KSetO X.w Z ks)) (ru : RelV (kV k) u) (room : ks.length + 1 < scanBound)
    (h : ∀ s', Inv X pins σ (upd H Z (KSetO X.w Z (addK ks k))) s' → Q .none s') : wpAny (model X.prog X.w) X.A (call (.builtin "set.add") [.ref Z, u]) Q E s := by
  refine kset_add (key_rel ru) (ks_get I hZ) room fun h' sb new => ?_
  have ⟨ob, _, _, _, ⟨e1, _⟩, _⟩ := new
  exact h _ (I.write (e := Z) (t' := s.toks + 1) (by rw [hZ]; trivial) (.inl rfl) (fun b u hb hu => (sb.2 b hb).trans hu) ⟨ob, e1⟩ (ks_ok new))
theorem pe_set {elt tg iter : Expr} {ifs : List Expr} {scope : Scope} {own : List (PySem.Str × Nat)} {pos : Pos} {wi : TI} {g : TG} {tt : TT} {te : TE} (calm : X.calm = true) (nodup : X.N.Nodup) (src : PI X tg iter wi) (blk : BlkOk X.N X.env.scope scope own)
    (tgt : ∀ (s : Shared) (H : Hp) (C : Addr) (cl : List (PySem.Str × Addr)) (fp : List Addr), PG (X.blk s H scope (compEnvC scope cl C X.env) fp) tg g) (tst : ∀ (s : Shared) (H : Hp) (C : Addr) (cl : List (PySem.Str × Addr)) (fp : List Addr), PTs (X.blk s H scope (compEnvC scope cl C X.env) fp) ifs tt)
    (itm : ∀ (s : Shared) (H : Hp) (C : Addr) (cl : List (PySem.Str × Addr)) (fp : List Addr), PE (X.blk s H scope (compEnvC scope cl C X.env) fp) elt te) (fold : ∀ x, foldedSetIterable iter X.env x = pure x := by intro _; rfl) :
    PE X (.SetComp elt [⟨tg, iter, ifs, 0⟩] scope pos) (tSet X.w wi g tt te (own.map (·.2))) := ⟨fun pins s σ H Q I h => by
  rw [PpSet.eval_SetComp]
  have cap : ∀ y ∈ scope.names, y.2 = .free → ∃ c, X.env.cells.lookup y.1 = some c := fun y hy e => (blk.free y hy e).elim (fun k => I.ok.has _ (.inl k)) fun k => I.ok.has _ (.inr k)
  refine wpAny_comprehension_free (use := none) rfl fold (closure_ok cap) blk.kind (fun y hy e => by rw [blk.uniq y hy, e]) (thn (src.run pins s σ H _ I h) fun v0 s0 a0 => thn a0 fun v1 s1 a1 => ?_)
  obtain ⟨it, fp, tn, J, G1, rfl, I1, T, t1, f1, rest⟩ := a1
  refine PpSet.newSet_ok (newEnv_comp ?_)
  obtain ⟨Z, eZ⟩ : ∃ Z, s1.heap.objs.size = Z := ⟨_, rfl⟩
  rw [eZ]
  have zn : G1 Z = none := I1.hok.fresh (Nat.le_of_eq eZ)
  obtain ⟨U, ⟨m0, u0⟩, turn⟩ := rest Z zn
  -- the empty set stands
  obtain ⟨s2, es2⟩ : ∃ s2 : Shared, s2 = { s1 with heap := s1.heap.push (newSetObj X.w) } := ⟨_, rfl⟩
  obtain ⟨G2, eG2⟩ : ∃ G2, G2 = upd G1 Z (KSetO X.w Z []) := ⟨_, rfl⟩
  rw [← eG2] at u0
  have I2 : Inv X pins σ G2 s2 := by
    rw [es2, eG2, ← eZ]
    exact I1.laid (t' := s1.toks) (fun b o e => Heap.get?_push_of_some _ e) (Nat.le_refl _) (ks_ok (kset_fresh s1.heap X.w))
  have hp2 : s2.heap = s1.heap.push (newSetObj X.w) := by rw [es2]
  have old : ∀ b o, s1.heap.get? b = some o → s2.heap.get? b = some o := fun b o e => by rw [hp2]; exact Heap.get?_push_of_some _ e
  have f2 : ∀ b ∈ fp, FpOk X pins G2 b ∧ b < s2.heap.objs.size := fun b hb => by
    obtain ⟨o, e, _⟩ := T.obj _ _ t1 b hb
    have lt := Heap.lt_size e
    refine ⟨⟨?_, (f1 b hb).2⟩, Heap.lt_size (old b o e)⟩
    rw [eG2, upd_ne (by rw [← eZ]; exact Nat.ne_of_lt lt)]
    exact (f1 b hb).1
  have t2 : tn 0 s2.heap := T.keep _ _ _ t1 fun b _ o e => old b o e
  -- the block's own frame
  have I3 := block_start I2 blk nodup f2
  obtain ⟨C, eC⟩ : ∃ C, s2.heap.objs.size = C := ⟨_, rfl⟩
  obtain ⟨cl, ecl⟩ : ∃ cl, cellsFrom (C + 1) scope.names (cloFrom X.env.cells scope.names []) = cl := ⟨_, rfl⟩
  have pg := tgt s2 G2 C cl fp
  have pt := tst s2 G2 C cl fp
  have pe := itm s2 G2 C cl fp
  rw [eC, ecl] at I3
  obtain ⟨s3, es3⟩ : ∃ s3 : Shared, s3 = { s2 with heap := pushCells (s2.heap.push { cls := .type "dict", data := .dict #[] }) scope.names } := ⟨_, rfl⟩
  rw [← es3] at I3
  have t3 : tn 0 s3.heap := T.keep _ _ _ t2 fun b _ o e => by rw [es3]; exact pushCells_keeps _ _ _ _ (Heap.get?_push_of_some _ e)
  obtain ⟨B, eB⟩ : ∃ B, compEnvC scope cl C X.env = B := ⟨_, rfl⟩
  have lB : B.locals = C := by rw [← eB]; rfl
  rw [eB] at I3 pg pt pe
  have still : ∀ {σ' : L2.St} {G : Hp} {s' : Shared}, Inv (X.blk s2 G2 scope B fp) [] σ' G s' → (∀ b ∈ fp, G b = none) → ∀ b ∈ fp, FpOk (X.blk s2 G2 scope B fp) [] G b := fun {σ' G s'} I' hn b hb =>
    ⟨hn b hb, (I'.ok.exf b hb).1, I'.ok.exfs b hb, .inl hb, fun x c e => (I'.ok.exf b hb).2 x c e, fun p hp => by cases (show p ∈ ([] : List (Addr × Obj)) from hp)⟩
  -- all turns
  have all : codeAny (model X.prog X.w) X.A (.compLoop (.SetComp elt [⟨tg, iter, ifs, 0⟩] scope pos) 0 (.ref it) (.ref Z) B) (compPost (model X.prog X.w) X.A X.xe none (fun u s' => ∃ y G, Inv X pins σ G s' ∧ RelV y u ∧ Q y G) (.ref Z) C) s3 := by
    refine PpSet.compLoopS_any (fun m s' => ∃ j G, U j m G ∧ (∀ b ∈ fp, G b = none) ∧ tn j s'.heap ∧ Inv (X.blk s2 G2 scope B fp) [] (wipe σ (own.map (·.2))) G s') ?_ m0 ⟨0, G2, u0, fun b hb => (f2 b hb).1.1, t3, I3⟩
    rintro m s4 ⟨j, G4, u4, n4, t4, I4⟩
    rcases turn j m G4 u4 with ⟨st, qq⟩ | ⟨go, V', nxt, body⟩
    · refine thnF (T.done (X.blk s2 G2 scope B fp) rfl rfl rfl calm j [] s4 _ G4 (fun _ _ => False) I4 (still I4 n4) t4 st) fun r s5 ⟨er, I5⟩ => ?_
      subst er
      have I6 : Inv X pins σ G4 s5 := I2.call' (ch := fp) I5.os I5.base I5.hok I5.bare fun b hb => ⟨(f2 b hb).1.2.2.2.1, (f2 b hb).1.2.1, (f2 b hb).1.2.2.2.2.1, (f2 b hb).1.2.2.2.2.2⟩
      have fC : G4 C = none := by rw [← lB]; exact I5.free
      obtain ⟨mm, hns, _⟩ := I5.loc
      refine ⟨mm, by rw [← lB]; exact hns, fun h'' sb => ?_⟩
      obtain ⟨a0, a1, a2, a3, a4, a5⟩ := I2.fpOk (b := C) (H' := G4) (Nat.le_of_eq eC) fC
      exact ⟨.ref Z, G4, I6.turned (t' := s5.toks) (fun b o hb e => (sb.2 b hb).trans e) a0 a1 a3 a4 a5, rfl, qq⟩
    · refine thnF (T.item (X.blk s2 G2 scope B fp) rfl rfl rfl calm j [] s4 _ G4 (fun _ _ => False) I4 (still I4 n4) t4 go) fun r s5 ⟨u, er, got⟩ => ?_
      subst er
      refine thnF got fun _ s6 ⟨x, G6, I6, r6, y6, t6, n6⟩ => ?_
      have P6 := I6.pinned (still I6 n6) (T.obj _ _ t6)
      refine thnF (pg.run _ s6 _ G6 x u _ P6 r6 (body x G6 y6)) fun _ s7 ⟨σ7, G7, I7, w7, q7⟩ => ?_
      refine thnF (pt.run _ s7 σ7 G7 _ I7 q7) fun b s8 ⟨G8, I8, q8⟩ => ?_
      have back : ∀ {s' : Shared} {G : Hp}, Inv (X.blk s2 G2 scope B fp) ([] ++ pinsAt fp s6.heap) σ7 G s' → V' G → ∃ m', m' < m ∧ ∃ j G, U j m' G ∧ (∀ b ∈ fp, G b = none) ∧ tn j s'.heap ∧ Inv (X.blk s2 G2 scope B fp) [] (wipe σ (own.map (·.2))) G s' := fun {s' G} I' v' => by
        obtain ⟨m', lt, u'⟩ := nxt G v'
        have pinned : ∀ b ∈ fp, ∀ o, s6.heap.get? b = some o → s'.heap.get? b = some o ∧ G b = none := fun b hb o e => by
          have z := I'.pin (b, o) (List.mem_append_right _ (List.mem_append_right _ (mem_pinsAt hb e)))
          exact ⟨z.1, z.2.1⟩
        refine ⟨m', lt, j + 1, G, u', fun b hb => ?_, T.keep _ _ _ t6 fun b hb o e => (pinned b hb o e).1, (I'.unpinned (pins := [])).weak (by rw [← w7, wipe_length]) fun i v e => ?_⟩
        · obtain ⟨o, e, _⟩ := T.obj _ _ t6 b hb
          exact (pinned b hb o e).2
        · rw [← w7] at e
          exact (wipe_some e).1
      cases b with
      | false => simp only [Bool.false_eq_true, if_false] at q8 ⊢; exact back I8 q8
      | true =>
        simp only [if_true] at q8 ⊢
        refine thnF (pe.run _ s8 σ7 G8 _ I8 q8) fun z s9 ⟨y, G9, I9, r9, k, ks, ey, hZ, room, v9⟩ => ?_
        subst ey
        exact add_key (X := X.blk s2 G2 scope B fp) I9 hZ r9 room fun s10 I10 => back I10 v9
  have start := PpSet.codeAny_compStart_set (elt := elt) (target := tg) (iter := iter) (ifs := ifs) (rest := []) (scope := scope) (pos := pos) all (T.self X.A 0 _ _ _ t3 all)
  have e4 : ({ s1 with heap := s1.heap.push (newSetObj X.w) } : Shared) = s2 := es2.symm
  rw [e4, eC, ecl]
  rw [← es3]
  rw [← eB] at start
  exact start⟩
def addD (xs : List D) (y : D) : Option (List D) := match keysD xs, keyD y with
  | some ks, some k => if ks.length < 4000 then some ((addK ks k).map ofKey) else none
  | _, _ => none
theorem addD_of {ks : List Key} {k : Key} (h : ks.length < 4000) : addD (ks.map ofKey) (ofKey k) = some ((addK ks k).map ofKey) := by
  simp only [addD, keysD_ofKey, keyD_ofKey, h, if_true]
def scompV (J : It) (g : Tg) (c : ST) (e : SE) (n : Nat) (σ0 : Sl) : Nat → Nat → Sto → Option Sto
  | 0, _, _ => none
  | m + 1, i, st => match items J st with
    | none => none
    | some xs => match xs[i]? with
      | none => some st
      | some d => match g d σ0 with
        | none => none
        | some σ1 => bnd (c σ1 st) fun b s1 => if b = true then bnd (e σ1 s1) fun y s2 => (match getS s2 n with
            | none => none
            | some acc => match addD acc y with
              | none => none
              | some acc2 => scompV J g c e n σ0 m (i + 1) (s2.set n (.set acc2))) else scompV J g c e n σ0 m (i + 1) s1
def scompF (vs : List Nat) (i : SJ) (g : Tg) (c : ST) (e : SE) : SE := fun σ st => bnd (i σ st) fun J s1 => match items J s1 with
  | none => none
  | some xs => (scompV J g c e s1.length (wipeD σ vs) (xs.length + 1) 0 (s1 ++ [.set []])).map fun s2 => (.loc s1.length, s2)
theorem rd_scomp {vs : List Nat} {i : SJ} {gg : TG} {g : Tg} {c : ST} {e : SE} (ok : OkG K gg g) (ow : OwnG vs gg) : ∀ τ H Q, rdE K ww (scompF vs i g c e) τ H Q → tSet ww (rdI K ww i) gg (rdT K ww c) (rdE K ww e) vs τ H Q :=
  fun τ H Q ⟨μ, st, σ, d, st', gd, er, hv, k⟩ => by
    obtain ⟨J, s1, h1, hv⟩ := bnd_eq hv
    cases ei : items J s1 with
    | none => simp only [ei] at hv; cases hv
    | some xs =>
      simp only [ei] at hv
      cases ec : scompV J g c e s1.length (wipeD σ vs) (xs.length + 1) 0 (s1 ++ [.set []]) with
      | none => rw [ec] at hv; cases hv
      | some s9 =>
        rw [ec] at hv
        cases hv
        refine ⟨μ, st, σ, J, s1, gd, er, h1, fun μ0 H0 J' g0 d0 iR Z hZ => ?_⟩
        have gn : Gr H0 μ0 (upd H0 Z (KSetO ww Z [])) (μ0 ++ [Z]) := gr_new hZ
        have dn : Gd K ww (upd H0 Z (KSetO ww Z [])) (μ0 ++ [Z]) (s1 ++ [.set []]) := d0.newO (o := .set []) hZ ⟨[], rfl, upd_same⟩
        have pZ : (μ0 ++ [Z])[s1.length]? = some Z := by
          rw [← d0.len, List.getElem?_append_right (Nat.le_refl _), Nat.sub_self]
          rfl
        have ew : EnvR K H0 μ0 (wipeD σ vs) (wipe τ vs) := envr_wipe (er.m g0) vs
        refine ⟨fun j m H1 => ∃ μ1 s2, Gr (upd H0 Z (KSetO ww Z [])) (μ0 ++ [Z]) H1 μ1 ∧ Gd K ww H1 μ1 s2 ∧ scompV J g c e s1.length (wipeD σ vs) m j s2 = some st', ⟨_, μ0 ++ [Z], _, Gr.refl _ _, dn, ec⟩, ?_⟩
        rintro j m H1 ⟨μ1, s2, g1, d1, hv1⟩
        cases m with
        | zero => cases hv1
        | succ m =>
          unfold scompV at hv1
          cases e2 : items J s2 with
          | none => simp only [e2] at hv1; cases hv1
          | some ys =>
            simp only [e2] at hv1
            have g01 := gn.trans g1
            obtain ⟨q1, q2⟩ := iR μ1 H1 s2 ys g01 d1 e2
            cases e3 : ys[j]? with
            | none =>
              simp only [e3] at hv1
              cases hv1
              exact .inl ⟨q1 j (by simpa using e3), k μ1 H1 _ (g0.trans g01) d1 (rep_loc (g1.get pZ))⟩
            | some y =>
              simp only [e3] at hv1
              obtain ⟨q3, q4⟩ := q2 j y e3
              let V' : Hp → Prop := fun H3 => ∃ μ3 s3, Gr (upd H0 Z (KSetO ww Z [])) (μ0 ++ [Z]) H3 μ3 ∧ Gd K ww H3 μ3 s3 ∧ scompV J g c e s1.length (wipeD σ vs) m (j + 1) s3 = some st'
              refine .inr ⟨q3, V', fun H3 q => ⟨m, Nat.lt_succ_self m, q⟩, fun x H2 hy => ?_⟩
              obtain ⟨sm, rx⟩ := q4 x H2 hy
              have gs : Gr H1 μ1 H2 μ1 := ⟨Keeps.same sm, [], by simp⟩
              have d2 := d1.same sm
              cases e4 : g y (wipeD σ vs) with
              | none => simp only [e4] at hv1; cases hv1
              | some σ2 =>
                simp only [e4] at hv1
                obtain ⟨b, s3, h3, hv1⟩ := bnd_eq hv1
                have main : gg x (wipe τ vs) H2 fun τ2 H2 => rdT K ww c τ2 H2 fun b H3 => if b = true then rdE K ww e τ2 H3 fun y H4 => ∃ (k : Key) (ks : List Key), y = kV k ∧ H4 Z = some (KSetO ww Z ks) ∧ ks.length + 1 < scanBound ∧ V' (upd H4 Z (KSetO ww Z (addK ks k))) else V' H3 := by
                  refine ok H2 μ1 _ _ y x σ2 _ (ew.m (g01.trans gs)) rx e4 fun τ2 e5 => ?_
                  refine ⟨μ1, s2, σ2, b, s3, d2, e5, h3, fun μ4 H4 g4 d4 => ?_⟩
                  have g5 := (g1.trans gs).trans g4
                  cases b with
                  | false => exact ⟨μ4, s3, g5, d4, hv1⟩
                  | true =>
                    rw [if_pos rfl] at hv1
                    show rdE K ww e τ2 H4 _
                    obtain ⟨z, s4, h4, hv1⟩ := bnd_eq hv1
                    refine ⟨μ4, s3, σ2, z, s4, d4, e5.m g4, h4, fun μ5 H5 w g6 d5 r5 => ?_⟩
                    cases e6 : getS s4 s1.length with
                    | none => simp only [e6] at hv1; cases hv1
                    | some acc =>
                      simp only [e6] at hv1
                      cases e7 : addD acc z with
                      | none => simp only [e7] at hv1; cases hv1
                      | some acc2 =>
                        simp only [e7] at hv1
                        have hp5 := (g5.trans g6).get pZ
                        obtain ⟨ks, ea, hH⟩ := d5.getS hp5 e6
                        subst ea
                        unfold addD at e7
                        rw [keysD_ofKey] at e7
                        cases ez : keyD z with
                        | none => simp only [ez] at e7; cases e7
                        | some kz =>
                          simp only [ez] at e7
                          split at e7
                          · rename_i hl
                            cases e7
                            have wr := d5.writeO (o := .set (ks.map ofKey)) (o2 := .set ((addK ks kz).map ofKey)) (u := KSetO ww Z (addK ks kz)) hp5 (getS_get e6) rfl rfl fun _ => ⟨_, keysD_ofKey _, upd_same⟩
                            exact ⟨kz, ks, keyD_rep r5 ez, hH, (show ks.length + 1 < 4096 by omega), μ5, _, (g5.trans g6).trans wr.1, wr.2, hv1⟩
                          · cases e7
                have hq2 := ow x _ _ _ main
                rw [wipe_wipe] at hq2
                exact hq2
theorem se_scomp {elt tg iter : Expr} {ifs : List Expr} {scope : Scope} {own : List (Str × Nat)} {pos : Pos} {i : SJ} {gg : TG} {g : Tg} {c : ST} {e : SE} (hc : X.calm = true) (hN : X.N.Nodup) (hi : PI X tg iter (rdI X.K X.w i)) (ok : BlkOk X.N X.env.scope scope own)
    (hg : ∀ (s : Shared) (H : Hp) (C : Addr) (cl : List (Str × Addr)) (fp : List Addr), PG (X.blk s H scope (compEnvC scope cl C X.env) fp) tg gg) (okg : OkG X.K gg g) (ow : OwnG (own.map (·.2)) gg)
    (ht : ∀ (s : Shared) (H : Hp) (C : Addr) (cl : List (Str × Addr)) (fp : List Addr), PTs (X.blk s H scope (compEnvC scope cl C X.env) fp) ifs (rdT X.K X.w c))
    (he : ∀ (s : Shared) (H : Hp) (C : Addr) (cl : List (Str × Addr)) (fp : List Addr), PE (X.blk s H scope (compEnvC scope cl C X.env) fp) elt (rdE X.K X.w e)) (hs : ∀ x, foldedSetIterable iter X.env x = pure x := by intro _; rfl) :
    PE X (.SetComp elt [⟨tg, iter, ifs, 0⟩] scope pos) (rdE X.K X.w (scompF (own.map (·.2)) i g c e)) := (pe_set hc hN hi ok hg ht he hs).weak (rd_scomp okg ow)
/-! ### reversed(range(n)) -/
def rrgI (f : SE) : SJ := fun σ st => bnd (f σ st) fun d s1 => match d with
  | .int j => if 0 ≤ j ∧ j ≤ 1000000 then some (.cns (rngD 0 j.toNat).reverse, s1) else none
  | _ => none
@[simp] theorem rrgI_eq {f : SE} {σ : Sl} {st : Sto} : rrgI f σ st = bnd (f σ st) fun d s1 => match d with
  | .int j => if 0 ≤ j ∧ j ≤ 1000000 then some (.cns (rngD 0 j.toNat).reverse, s1) else none
  | _ => none := rfl
theorem si_rrg {tg a : Expr} {f : SE} {p q pos pos2 : Pos} (hg : Gl X "reversed") (hm : X.mg "reversed" = none) (hg2 : Gl X "range") (hm2 : X.mg "range" = none) (ha : PE X a (rdE X.K X.w f))
    (na : starEach [a] X.env = (false, eval a X.env) :: starEach [] X.env := by rfl) (nb : starEach [.Call (.Name "range" q) [a] [] pos2] X.env = (false, eval (.Call (.Name "range" q) [a] [] pos2) X.env) :: starEach [] X.env := by rfl) :
    PI X tg (.Call (.Name "reversed" p) [.Call (.Name "range" q) [a] [] pos2] [] pos) (rdI X.K X.w (rrgI f)) := ⟨fun pins s τ H R I hw => by
  obtain ⟨μ, st, σ, J, st', gd, er, hv, k⟩ := hw
  obtain ⟨d, s1, h1, hv⟩ := bnd_eq hv
  split at hv
  · split at hv
    · rename_i j hj
      cases hv
      refine (pi_revR hg hm (prg_1 hg2 hm2 ha na) nb).run pins s τ H R I ⟨μ, st, σ, _, _, gd, er, h1, fun μ1 H1 v g1 d1 r1 => ?_⟩
      simp only [Rep] at r1
      refine ⟨j, r1, by omega, by omega, by omega, by omega, k μ1 H1 _ g1 d1 fun μ2 H2 st2 xs g2 d2 e2 => ?_⟩
      cases e2
      have el : (rngD 0 j.toNat).reverse.length = j.toNat := by rw [List.length_reverse, rngD_len]
      refine ⟨fun i hi => (show (j - 0).toNat ≤ i by rw [el] at hi; omega), fun i d hd => ?_⟩
      have hi : i < j.toNat := by rw [← el]; exact (List.getElem?_eq_some_iff.mp hd).1
      rw [List.getElem?_reverse (by rw [rngD_len]; exact hi), rngD_len] at hd
      obtain ⟨_, rfl⟩ := rngD_get hd
      refine ⟨(show i < (j - 0).toNat by omega), fun x H3 ⟨e3, e4⟩ => ?_⟩
      subst e3
      refine ⟨Same.refl _, ?_⟩
      rw [e4]
      simp only [Rep]
      congr 1
      omega
    · cases hv
  · cases hv⟩
/-! ### a op b op' c as a test; a op b op' c op'' d -/
theorem rd_chain {o o' : Op2} {op : CmpOp} {f g h : SE} (hc : Cmp X op o) {r r' : R2} (p2 : Ok2 X.K X.w r o) (q2 : Ok2 X.K X.w r' o') : ∀ τ H Q, rdE X.K X.w (chnF o o' f g h) τ H Q → tChain r r' (rdE X.K X.w f) (rdE X.K X.w g) (rdE X.K X.w h) τ H Q := fun τ H Q ⟨μ, st, σ, d, st', gd, er, hv, k⟩ => by
  obtain ⟨x, s1, e1, hv⟩ := bnd_eq hv
  obtain ⟨y, s2, e2, hv⟩ := bnd_eq hv
  obtain ⟨z, s3, e3, hv⟩ := bnd_eq hv
  refine ⟨μ, st, σ, x, s1, gd, er, e1, fun μ1 H1 vx g1 d1 r1 => ?_⟩
  refine ⟨μ1, s1, σ, y, s2, d1, er.m g1, e2, fun μ2 H2 vy g2 d2 r2 => ?_⟩
  refine p2 H2 μ2 s2 x y vx vy z s3 _ d2 (r1.m g2) r2 e3 fun μ3 H3 vz g3 d3 r3 => ?_
  obtain ⟨bb, rfl⟩ := hc.bl _ _ _ _ _ e3
  simp only [Rep] at r3
  refine ⟨bb, r3, ?_⟩
  cases bb with
  | false =>
    cases hv
    exact k μ3 H3 _ ((g1.trans g2).trans g3) d3 (by simp only [Rep])
  | true =>
    show rdE X.K X.w h τ H3 _
    obtain ⟨w, s4, e4, hv⟩ := bnd_eq hv
    refine ⟨μ3, s3, σ, w, s4, d3, er.m ((g1.trans g2).trans g3), e4, fun μ4 H4 vw g4 d4 r4 => ?_⟩
    exact q2 H4 μ4 s4 y w vy vw d st' Q d4 (r2.m (g3.trans g4)) r4 hv fun μ5 H5 v g5 d5 r5 => k μ5 H5 v ((((g1.trans g2).trans g3).trans g4).trans g5) d5 r5
theorem chn_bl {o o' : Op2} {f g h : SE} (h2 : ∀ x y st d st', o' x y st = some (d, st') → ∃ b, d = .bl b) {σ : Sl} {st : Sto} {d : D} {st' : Sto} (hv : chnF o o' f g h σ st = some (d, st')) : ∃ b, d = .bl b := by
  unfold chnF at hv
  obtain ⟨_, _, _, hv⟩ := bnd_eq hv
  obtain ⟨_, _, _, hv⟩ := bnd_eq hv
  obtain ⟨z, _, _, hv⟩ := bnd_eq hv
  split at hv
  · obtain ⟨_, _, _, hv⟩ := bnd_eq hv
    exact h2 _ _ _ _ _ hv
  · cases hv; exact ⟨_, rfl⟩
  · cases hv
theorem rd_test {f : SE} {t : TE} (hb : ∀ σ st d st', f σ st = some (d, st') → ∃ b, d = .bl b) (h : ∀ τ H Q, rdE X.K X.w f τ H Q → t τ H Q) : ∀ τ H Q, rdT X.K X.w (truF f) τ H Q → tTest t τ H Q := fun τ H Q ⟨μ, st, σ, b, st', gd, er, hv, k⟩ => by
  obtain ⟨d, s1, e1, hv⟩ := bnd_eq hv
  obtain ⟨c, rfl⟩ := hb _ _ _ _ e1
  cases hv
  exact h τ H _ ⟨μ, st, σ, .bl b, _, gd, er, e1, fun μ1 H1 v g1 d1 r1 => ⟨b, by simpa only [Rep] using r1, k μ1 H1 g1 d1⟩⟩
theorem t_chain {op op' : CmpOp} {o o' : Op2} {a b c : Expr} {f g h : SE} {pos : Pos} (hc : Cmp X op o) (hc' : Cmp X op' o') (ha : PE X a (rdE X.K X.w f)) (hb : PE X b (rdE X.K X.w g)) (h3 : PE X c (rdE X.K X.w h)) (hl : lastMarks [op, op'] [b, c] = false := by rfl) : PT X (.Compare a [op, op'] [b, c] pos) (rdT X.K X.w (truF (chnF o o' f g h))) := by
  obtain ⟨r, p1, p2⟩ := hc.ex
  obtain ⟨r', q1, q2⟩ := hc'.ex
  exact (pt_chain p1 q1 ha hb h3 hl).weak (rd_test (fun _ _ _ _ e => chn_bl hc'.bl e) (rd_chain hc p2 q2))
def tChain3 (r r' r'' : R2) (ta tb tc td : TE) : TE := fun σ H Q => ta σ H fun x H1 => tb σ H1 fun y H2 => r x y H2 fun z H3 => ∃ k, z = .bl k ∧ (if k = true then tc σ H3 fun v H4 => r' y v H4 fun z2 H5 => ∃ k2, z2 = .bl k2 ∧ (if k2 = true then td σ H5 fun u H6 => r'' v u H6 Q else Q (.bl false) H5) else Q (.bl false) H3)
theorem pe_chain3 {op op' op'' : CmpOp} {r r' r'' : R2} {a b c d : Expr} {ta tb tc td : TE} {pos : Pos} (ho : OpR X (compareOp op) r) (ho' : OpR X (compareOp op') r') (ho'' : OpR X (compareOp op'') r'') (ha : PE X a ta) (hb : PE X b tb) (hc : PE X c tc) (hd : PE X d td)
    (hm : lastMarks [op, op', op''] [b, c, d] = false := by with_unfolding_all rfl) : PE X (.Compare a [op, op', op''] [b, c, d] pos) (tChain3 r r' r'' ta tb tc td) := ⟨fun pins s σ H Q I h =>
  PyProof.Rows.Compare_chain (thn (ha.run pins s σ H _ I h) fun v s1 ⟨x, H1, I1, r1, q1⟩ => PyProof.Rows.chain_link (thn (hb.run pins s1 σ H1 _ I1 q1) fun u s2 ⟨y, H2, I2, r2, q2⟩ =>
    thn (ho pins s2 σ H2 x y v u _ I2 r1 r2 q2) fun e s3 ⟨z, H3, I3, r3, k, ek, q3⟩ => by
      subst ek
      cases r3
      refine wpAny_truthy_bool ?_
      cases k with
      | false => exact PyProof.Rows.ite_ff ⟨.bl false, H3, I3, rfl, q3⟩
      | true =>
        refine PyProof.Rows.ite_tt (PyProof.Rows.chain_link (thn (hc.run pins s3 σ H3 _ I3 q3) fun w4 s4 ⟨z4, H4, I4, r4, q4⟩ => thn (ho' pins s4 σ H4 y z4 u w4 _ I4 r2 r4 q4) fun e2 s5 ⟨z5, H5, I5, r5, k2, ek2, q5⟩ => ?_))
        subst ek2
        cases r5
        refine wpAny_truthy_bool ?_
        cases k2 with
        | false => exact PyProof.Rows.ite_ff ⟨.bl false, H5, I5, rfl, q5⟩
        | true => exact PyProof.Rows.ite_tt (PyProof.Rows.chain_last (thn (hd.run pins s5 σ H5 _ I5 q5) fun w6 s6 ⟨z6, H6, I6, r6, q6⟩ => ho'' pins s6 σ H6 z4 z6 w4 w6 Q I6 r4 r6 q6)))) hm⟩
theorem pt_chain3 {op op' op'' : CmpOp} {r r' r'' : R2} {a b c d : Expr} {ta tb tc td : TE} {pos : Pos} (ho : OpR X (compareOp op) r) (ho' : OpR X (compareOp op') r') (ho'' : OpR X (compareOp op'') r'') (ha : PE X a ta) (hb : PE X b tb) (hc : PE X c tc) (hd : PE X d td)
    (hm : lastMarks [op, op', op''] [b, c, d] = false := by with_unfolding_all rfl) : PT X (.Compare a [op, op', op''] [b, c, d] pos) (tTest (tChain3 r r' r'' ta tb tc td)) := ⟨fun pins s σ H Q I h =>
  PyProof.Rows.isTrue_chain (thn (ha.run pins s σ H _ I h) fun v s1 ⟨x, H1, I1, r1, q1⟩ => PyProof.Rows.test_link (thn (hb.run pins s1 σ H1 _ I1 q1) fun u s2 ⟨y, H2, I2, r2, q2⟩ =>
    thn (ho pins s2 σ H2 x y v u _ I2 r1 r2 q2) fun e s3 ⟨z, H3, I3, r3, k, ek, q3⟩ => by
      subst ek
      cases r3
      refine wpAny_truthy_bool ?_
      cases k with
      | false =>
        obtain ⟨k', e', q'⟩ := q3
        cases e'
        exact PyProof.Rows.ite_ff ⟨H3, I3, q'⟩
      | true =>
        refine PyProof.Rows.ite_tt (PyProof.Rows.test_link (thn (hc.run pins s3 σ H3 _ I3 q3) fun w4 s4 ⟨z4, H4, I4, r4, q4⟩ => thn (ho' pins s4 σ H4 y z4 u w4 _ I4 r2 r4 q4) fun e2 s5 ⟨z5, H5, I5, r5, k2, ek2, q5⟩ => ?_))
        subst ek2
        cases r5
        refine wpAny_truthy_bool ?_
        cases k2 with
        | false =>
          obtain ⟨k', e', q'⟩ := q5
          cases e'
          exact PyProof.Rows.ite_ff ⟨H5, I5, q'⟩
        | true =>
          refine PyProof.Rows.ite_tt (PyProof.Rows.test_last (thn (hd.run pins s5 σ H5 _ I5 q5) fun w6 s6 ⟨z6, H6, I6, r6, q6⟩ => thn (ho'' pins s6 σ H6 z4 z6 w4 w6 _ I6 r4 r6 q6) fun e3 s7 ⟨z7, H7, I7, r7, k3, ek3, q7⟩ => ?_))
          subst ek3
          cases r7
          exact wpAny_truthy_bool ⟨H7, I7, q7⟩)) hm⟩
def chn3F (o o' o'' : Op2) (f g h i : SE) : SE := fun σ st => bnd (f σ st) fun x s1 => bnd (g σ s1) fun y s2 => bnd (o x y s2) fun z s3 => match z with
  | .bl true => bnd (h σ s3) fun w s4 => bnd (o' y w s4) fun z2 s5 => (match z2 with
    | .bl true => bnd (i σ s5) fun u s6 => o'' w u s6
    | .bl false => some (.bl false, s5)
    | _ => none)
  | .bl false => some (.bl false, s3)
  | _ => none
@[simp] theorem chn3F_eq {o o' o'' : Op2} {f g h i : SE} {σ : Sl} {st : Sto} : chn3F o o' o'' f g h i σ st = bnd (f σ st) fun x s1 => bnd (g σ s1) fun y s2 => bnd (o x y s2) fun z s3 => match z with
  | .bl true => bnd (h σ s3) fun w s4 => bnd (o' y w s4) fun z2 s5 => (match z2 with
    | .bl true => bnd (i σ s5) fun u s6 => o'' w u s6
    | .bl false => some (.bl false, s5)
    | _ => none)
  | .bl false => some (.bl false, s3)
  | _ => none := rfl
theorem rd_chain3 {o o' o'' : Op2} {op op' : CmpOp} {f g h i : SE} (hc : Cmp X op o) (hc' : Cmp X op' o') {r r' r'' : R2} (p2 : Ok2 X.K X.w r o) (q2 : Ok2 X.K X.w r' o') (t2 : Ok2 X.K X.w r'' o'') :
    ∀ τ H Q, rdE X.K X.w (chn3F o o' o'' f g h i) τ H Q → tChain3 r r' r'' (rdE X.K X.w f) (rdE X.K X.w g) (rdE X.K X.w h) (rdE X.K X.w i) τ H Q := fun τ H Q ⟨μ, st, σ, d, st', gd, er, hv, k⟩ => by
  obtain ⟨x, s1, e1, hv⟩ := bnd_eq hv
  obtain ⟨y, s2, e2, hv⟩ := bnd_eq hv
  obtain ⟨z, s3, e3, hv⟩ := bnd_eq hv
  refine ⟨μ, st, σ, x, s1, gd, er, e1, fun μ1 H1 vx g1 d1 r1 => ?_⟩
  refine ⟨μ1, s1, σ, y, s2, d1, er.m g1, e2, fun μ2 H2 vy g2 d2 r2 => ?_⟩
  refine p2 H2 μ2 s2 x y vx vy z s3 _ d2 (r1.m g2) r2 e3 fun μ3 H3 vz g3 d3 r3 => ?_
  obtain ⟨bb, rfl⟩ := hc.bl _ _ _ _ _ e3
  simp only [Rep] at r3
  have g03 := (g1.trans g2).trans g3
  refine ⟨bb, r3, ?_⟩
  cases bb with
  | false =>
    cases hv
    exact k μ3 H3 _ g03 d3 (by simp only [Rep])
  | true =>
    show rdE X.K X.w h τ H3 _
    obtain ⟨w, s4, e4, hv⟩ := bnd_eq hv
    obtain ⟨z2, s5, e5, hv⟩ := bnd_eq hv
    refine ⟨μ3, s3, σ, w, s4, d3, er.m g03, e4, fun μ4 H4 vw g4 d4 r4 => ?_⟩
    refine q2 H4 μ4 s4 y w vy vw z2 s5 _ d4 (r2.m (g3.trans g4)) r4 e5 fun μ5 H5 v g5 d5 r5 => ?_
    obtain ⟨b2, rfl⟩ := hc'.bl _ _ _ _ _ e5
    simp only [Rep] at r5
    have g05 := (g03.trans g4).trans g5
    refine ⟨b2, r5, ?_⟩
    cases b2 with
    | false =>
      cases hv
      exact k μ5 H5 _ g05 d5 (by simp only [Rep])
    | true =>
      show rdE X.K X.w i τ H5 _
      obtain ⟨u, s6, e6, hv⟩ := bnd_eq hv
      refine ⟨μ5, s5, σ, u, s6, d5, er.m g05, e6, fun μ6 H6 vu g6 d6 r6 => ?_⟩
      exact t2 H6 μ6 s6 w u vw vu d st' Q d6 (r4.m (g5.trans g6)) r6 hv fun μ7 H7 v g7 d7 r7 => k μ7 H7 v ((g05.trans g6).trans g7) d7 r7
theorem chn3_bl {o o' o'' : Op2} {f g h i : SE} (h2 : ∀ x y st d st', o'' x y st = some (d, st') → ∃ b, d = .bl b) {σ : Sl} {st : Sto} {d : D} {st' : Sto} (hv : chn3F o o' o'' f g h i σ st = some (d, st')) : ∃ b, d = .bl b := by
  unfold chn3F at hv
  obtain ⟨_, _, _, hv⟩ := bnd_eq hv
  obtain ⟨_, _, _, hv⟩ := bnd_eq hv
  obtain ⟨z, _, _, hv⟩ := bnd_eq hv
  split at hv
  · obtain ⟨_, _, _, hv⟩ := bnd_eq hv
    obtain ⟨_, _, _, hv⟩ := bnd_eq hv
    split at hv
    · obtain ⟨_, _, _, hv⟩ := bnd_eq hv
      exact h2 _ _ _ _ _ hv
    · cases hv; exact ⟨_, rfl⟩
    · cases hv
  · cases hv; exact ⟨_, rfl⟩
  · cases hv
section
variable {op op' op'' : CmpOp} {o o' o'' : Op2} {a b c d : Expr} {f g h i : SE} {pos : Pos}
theorem e_chain3 (hc : Cmp X op o) (hc' : Cmp X op' o') (hc'' : Cmp X op'' o'') (ha : PE X a (rdE X.K X.w f)) (hb : PE X b (rdE X.K X.w g)) (h3 : PE X c (rdE X.K X.w h)) (h4 : PE X d (rdE X.K X.w i)) (hl : lastMarks [op, op', op''] [b, c, d] = false := by rfl) : PE X (.Compare a [op, op', op''] [b, c, d] pos) (rdE X.K X.w (chn3F o o' o'' f g h i)) := by
  obtain ⟨r, p1, p2⟩ := hc.ex
  obtain ⟨r', q1, q2⟩ := hc'.ex
  obtain ⟨r'', t1, t2⟩ := hc''.ex
  exact (pe_chain3 p1 q1 t1 ha hb h3 h4 hl).weak (rd_chain3 hc hc' p2 q2 t2)
theorem t_chain3 (hc : Cmp X op o) (hc' : Cmp X op' o') (hc'' : Cmp X op'' o'') (ha : PE X a (rdE X.K X.w f)) (hb : PE X b (rdE X.K X.w g)) (h3 : PE X c (rdE X.K X.w h)) (h4 : PE X d (rdE X.K X.w i)) (hl : lastMarks [op, op', op''] [b, c, d] = false := by rfl) : PT X (.Compare a [op, op', op''] [b, c, d] pos) (rdT X.K X.w (truF (chn3F o o' o'' f g h i))) := by
  obtain ⟨r, p1, p2⟩ := hc.ex
  obtain ⟨r', q1, q2⟩ := hc'.ex
  obtain ⟨r'', t1, t2⟩ := hc''.ex
  exact (pt_chain3 p1 q1 t1 ha hb h3 h4 hl).weak (rd_test (fun _ _ _ _ e => chn3_bl hc''.bl e) (rd_chain3 hc hc' p2 q2 t2))
end
/-! ### f() -/
theorem e_call0 {n : Nat} {x : Str} {φ : Fx} {p pos : Pos} (C : Cal X.prog X.w X.K X.mg X.base n x [] φ) (hr : Room n X.A) (hg : Gl X x) (hdb : (x == ("__debug__" : Str)) = false := by decide) : PE X (.Call (.Name x p) [] [] pos) (rdE X.K X.w (callF φ nilF)) := by
  obtain ⟨f, fd, G, hm, hk, hb⟩ := C.ex
  refine (pe_call0 G hr hg hm hk hb .nil pass0 hdb).weak fun τ H Q ⟨μ, st, σ, d, st', gd, er, hv, kk⟩ => ?_
  have hv2 : φ [] st = some (d, st') := hv
  show spF X.K X.w 0 φ ([] ++ []) H Q E0
  exact ⟨rfl, μ, st, [], d, st', gd, reps_nil, hv2, kk⟩
/-! ### name = [..], the name also used by an inner block -/
theorem sw_cell {elt : Expr} {gs : List Comprehension} {scope : Scope} {pos py : Pos} {y : Str} {l : Nat} {env : Env} (hy : env.scope.names.lookup y = some .cell) : swapsWith (.ListComp elt gs scope pos) (some (.Name y py)) l env = pure false := by
  have ky : env.kindOf y = some .cell := hy
  unfold swapsWith
  simp only [ky]
  have e : ((some NameKind.cell : Option NameKind) == some NameKind.local) = false := rfl
  rw [e, Bool.and_false, Bool.false_and, Bool.false_and]
end
end Iv

namespace Iv
open PySem L2
/-! ### comprehensions of two clauses, of sets, as functions -/
/-- the same loop, with what stands before it in the list -/
theorem compG_loop {J : It} {g : Tg} {c : ST} {e : SE} {σ0 : Sl} {st1 : Sto} {xs : List D} {n : Nat} (pre : List D) (φ : D → Option D) (hn : st1.length ≤ n) (hz : pre.length + xs.length ≤ LIM) (hJ : ∀ s, Ext st1 s → items J s = some xs)
    (h : ∀ (i : Nat) (x : D), xs[i]? = some x → ∀ st, Ext st1 st → ∃ σ1 st2, g x σ0 = some σ1 ∧ c σ1 st = some ((φ x).isSome, st2) ∧ Ext st st2 ∧ ∀ y, φ x = some y → ∃ st3, e σ1 st2 = some (y, st3) ∧ Ext st2 st3) :
    ∀ (m i : Nat) (s : Sto), Ext st1 s → s[n]? = some (.lst (pre ++ (xs.take i).filterMap φ)) → i ≤ xs.length → xs.length - i < m → ∃ s2, compV J g c e n σ0 m i s = some s2 ∧ Ext st1 s2 ∧ s2[n]? = some (.lst (pre ++ xs.filterMap φ))
  | 0, i, s, _, _, _, hm => by omega
  | m + 1, i, s, hs, ha, hi, hm => by
    unfold compV
    simp only [hJ s hs]
    cases ex : xs[i]? with
    | none =>
      have e2 : i = xs.length := by
        have := List.getElem?_eq_none_iff.mp ex
        omega
      subst e2
      rw [List.take_length] at ha
      exact ⟨s, rfl, hs, ha⟩
    | some x =>
      have hlt := (List.getElem?_eq_some_iff.mp ex).1
      obtain ⟨σ1, s2, e1, e2, x2, e3⟩ := h i x ex s hs
      have ht : (xs.take (i + 1)).filterMap φ = (xs.take i).filterMap φ ++ (φ x).toList := by
        rw [List.take_add_one, ex, List.filterMap_append]
        cases hx : φ x <;> simp [hx]
      cases hx : φ x with
      | none =>
        rw [hx] at e2 ht
        simp only [e1, e2, bnd_some, Option.isSome_none, Bool.false_eq_true, if_false]
        exact compG_loop pre φ hn hz hJ h m (i + 1) _ (hs.trans x2) (by rw [ht, Option.toList_none, List.append_nil]; exact x2.at ha) hlt (by omega)
      | some y =>
        obtain ⟨s3, e4, x3⟩ := e3 y hx
        rw [hx] at e2 ht
        have hs3 := (hs.trans x2).trans x3
        have ha3 := x3.at (x2.at ha)
        have ga : getM s3 n = some (pre ++ (xs.take i).filterMap φ) := getM_of ha3
        have hl : (pre ++ (xs.take i).filterMap φ).length < LIM := by
          have h1 := List.length_filterMap_le φ (xs.take i)
          rw [List.length_take] at h1
          rw [List.length_append]
          exact Nat.lt_of_lt_of_le (by omega) hz
        have hn2 : n < s3.length := (List.getElem?_eq_some_iff.mp ha3).1
        simp only [e1, e2, bnd_some, Option.isSome_some, if_true, e4, ga, hl]
        refine compG_loop pre φ hn hz hJ h m (i + 1) _ (hs3.set hn) ?_ hlt (by omega)
        rw [List.getElem?_set_self hn2, ht, Option.toList_some, List.append_assoc]
theorem comp2_loop {J : It} {g : Tg} {i1 : SJ} {g1 : Tg} {c1 : ST} {e : SE} {vs1 : List Nat} {σ0 : Sl} {st1 : Sto} {xs : List D} (ys : D → List D) (φ : D → D → Option D) (hz : ∀ x ∈ xs, (ys x).length ≤ 1000) (hzz : xs.length ≤ 1000) (hJ : ∀ s, Ext st1 s → items J s = some xs)
    (h : ∀ (i : Nat) (x : D), xs[i]? = some x → ∃ σ1, g x σ0 = some σ1 ∧ ∀ st, Ext st1 st → ∃ J1 st2, i1 σ1 st = some (J1, st2) ∧ Ext st st2 ∧ (∀ s, Ext st1 s → items J1 s = some (ys x)) ∧
      ∀ (j : Nat) (y : D), (ys x)[j]? = some y → ∀ st, Ext st1 st → ∃ σ2 st2, g1 y (wipeD σ1 vs1) = some σ2 ∧ c1 σ2 st = some ((φ x y).isSome, st2) ∧ Ext st st2 ∧ ∀ z, φ x y = some z → ∃ st3, e σ2 st2 = some (z, st3) ∧ Ext st2 st3) :
    ∀ (m i : Nat) (s : Sto), Ext st1 s → s[st1.length]? = some (.lst ((xs.take i).flatMap fun x => (ys x).filterMap (φ x))) → i ≤ xs.length → xs.length - i < m →
      ∃ s2, comp2V J g yesT i1 g1 c1 e vs1 st1.length σ0 m i s = some s2 ∧ Ext st1 s2 ∧ s2[st1.length]? = some (.lst (xs.flatMap fun x => (ys x).filterMap (φ x)))
  | 0, i, s, _, _, _, hm => by omega
  | m + 1, i, s, hs, ha, hi, hm => by
    unfold comp2V
    simp only [hJ s hs]
    cases ex : xs[i]? with
    | none =>
      have e2 : i = xs.length := by
        have := List.getElem?_eq_none_iff.mp ex
        omega
      subst e2
      rw [List.take_length] at ha
      exact ⟨s, rfl, hs, ha⟩
    | some x =>
      have hlt := (List.getElem?_eq_some_iff.mp ex).1
      obtain ⟨σ1, e1, h1⟩ := h i x ex
      obtain ⟨J1, s2, e2, x2, hJ1, h2⟩ := h1 s hs
      have len : ((xs.take i).flatMap fun x => (ys x).filterMap (φ x)).length ≤ i * 1000 := by
        have : ∀ (l : List D) (k : Nat), (∀ x ∈ l, (ys x).length ≤ 1000) → l.length ≤ k → (l.flatMap fun x => (ys x).filterMap (φ x)).length ≤ k * 1000 := by
          intro l
          induction l with
          | nil => intro k _ _; simp
          | cons a l ih =>
            intro k ha hk
            rw [List.flatMap_cons, List.length_append]
            have q1 := List.length_filterMap_le (φ a) (ys a)
            have q2 := ha a List.mem_cons_self
            simp only [List.length_cons] at hk
            have q3 := ih (k - 1) (fun x hx => ha x (List.mem_cons_of_mem _ hx)) (by omega)
            omega
        refine this _ i (fun x hx => hz x (List.mem_of_mem_take hx)) (by rw [List.length_take]; omega)
      obtain ⟨s3, e3, x3, a3⟩ := compG_loop (J := J1) (g := g1) (c := c1) (e := e) (σ0 := wipeD σ1 vs1) (st1 := st1) (xs := ys x) (n := st1.length) ((xs.take i).flatMap fun x => (ys x).filterMap (φ x)) (φ x) (Nat.le_refl _)
        (by have := hz x (List.mem_of_getElem? ex); show _ ≤ 1000000; omega) hJ1 (fun j y hy st hst => h2 j y hy st hst) ((ys x).length + 1) 0 s2 (hs.trans x2) (by simpa using x2.at ha) (Nat.zero_le _) (by omega)
      simp only [e1, yesT, bnd_some, if_true, e2, hJ1 s2 (hs.trans x2), e3]
      refine comp2_loop ys φ hz hzz hJ h m (i + 1) s3 x3 ?_ hlt (by omega)
      rw [a3, List.take_add_one, ex, List.flatMap_append]
      simp
theorem comp2_ok {vs vs1 : List Nat} {i i1 : SJ} {g g1 : Tg} {c1 : ST} {e : SE} {σ : Sl} {st st1 : Sto} {J : It} {xs : List D} (ys : D → List D) (φ : D → D → Option D) (hi : i σ st = some (J, st1)) (hz : ∀ x ∈ xs, (ys x).length ≤ 1000) (hzz : xs.length ≤ 1000) (hJ : ∀ s, Ext st1 s → items J s = some xs)
    (h : ∀ (i : Nat) (x : D), xs[i]? = some x → ∃ σ1, g x (wipeD σ vs) = some σ1 ∧ ∀ st, Ext st1 st → ∃ J1 st2, i1 σ1 st = some (J1, st2) ∧ Ext st st2 ∧ (∀ s, Ext st1 s → items J1 s = some (ys x)) ∧
      ∀ (j : Nat) (y : D), (ys x)[j]? = some y → ∀ st, Ext st1 st → ∃ σ2 st2, g1 y (wipeD σ1 vs1) = some σ2 ∧ c1 σ2 st = some ((φ x y).isSome, st2) ∧ Ext st st2 ∧ ∀ z, φ x y = some z → ∃ st3, e σ2 st2 = some (z, st3) ∧ Ext st2 st3) :
    ∃ s2, comp2F vs vs1 i g yesT i1 g1 c1 e σ st = some (.loc st1.length, s2) ∧ Ext st1 s2 ∧ s2[st1.length]? = some (.lst (xs.flatMap fun x => (ys x).filterMap (φ x))) := by
  obtain ⟨s2, e2, x2, g2⟩ := comp2_loop (σ0 := wipeD σ vs) ys φ hz hzz hJ h (xs.length + 1) 0 (st1 ++ [.lst []]) (Ext.app _) (by simp) (Nat.zero_le _) (by omega)
  refine ⟨s2, ?_, x2, g2⟩
  unfold comp2F
  simp only [hi, bnd_some, hJ st1 Ext.refl, e2, Option.map_some]
/-- the members in the order of their coming -/
def setK (l : List Key) : List Key := l.foldl addK []
theorem mem_addK {ks : List Key} {k j : Key} : j ∈ addK ks k ↔ j ∈ ks ∨ j = k := by
  unfold addK
  split
  · rename_i h
    rw [hasK_iff] at h
    constructor
    · exact .inl
    · rintro (z | rfl)
      · exact z
      · exact h
  · simp
theorem nodup_addK {ks : List Key} {k : Key} (h : ks.Nodup) : (addK ks k).Nodup := by
  unfold addK
  split
  · exact h
  · rename_i z
    rw [hasK_iff] at z
    rw [(List.perm_append_singleton k ks).nodup_iff]
    exact List.nodup_cons.mpr ⟨z, h⟩
theorem len_addK {ks : List Key} {k : Key} : (addK ks k).length ≤ ks.length + 1 := by
  unfold addK
  split <;> simp
theorem mem_fold {l : List Key} : ∀ {ks : List Key} {j : Key}, j ∈ l.foldl addK ks ↔ j ∈ ks ∨ j ∈ l := by
  induction l with
  | nil => simp
  | cons k l ih =>
    intro ks j
    rw [List.foldl_cons, ih, mem_addK, List.mem_cons]
    constructor
    · rintro ((z | z) | z)
      · exact .inl z
      · exact .inr (.inl z)
      · exact .inr (.inr z)
    · rintro (z | z | z)
      · exact .inl (.inl z)
      · exact .inl (.inr z)
      · exact .inr z
theorem nodup_fold {l : List Key} : ∀ {ks : List Key}, ks.Nodup → (l.foldl addK ks).Nodup := by
  induction l with
  | nil => exact fun h => h
  | cons k l ih => exact fun h => ih (nodup_addK h)
theorem len_fold {l : List Key} : ∀ {ks : List Key}, (l.foldl addK ks).length ≤ ks.length + l.length := by
  induction l with
  | nil => simp
  | cons k l ih =>
    intro ks
    rw [List.foldl_cons]
    have := @ih (addK ks k)
    have := @len_addK ks k
    simp only [List.length_cons]
    omega
theorem scomp_loop {J : It} {g : Tg} {c : ST} {e : SE} {σ0 : Sl} {st1 : Sto} {xs : List D} {n : Nat} (φ : D → Option Key) (hn : st1.length ≤ n) (hz : xs.length < 4000) (hJ : ∀ s, Ext st1 s → items J s = some xs)
    (h : ∀ (i : Nat) (x : D), xs[i]? = some x → ∀ st, Ext st1 st → ∃ σ1 st2, g x σ0 = some σ1 ∧ c σ1 st = some ((φ x).isSome, st2) ∧ Ext st st2 ∧ ∀ y, φ x = some y → ∃ st3, e σ1 st2 = some (ofKey y, st3) ∧ Ext st2 st3) :
    ∀ (m i : Nat) (s : Sto), Ext st1 s → s[n]? = some (.set ((setK ((xs.take i).filterMap φ)).map ofKey)) → i ≤ xs.length → xs.length - i < m → ∃ s2, scompV J g c e n σ0 m i s = some s2 ∧ Ext st1 s2 ∧ s2[n]? = some (.set ((setK (xs.filterMap φ)).map ofKey))
  | 0, i, s, _, _, _, hm => by omega
  | m + 1, i, s, hs, ha, hi, hm => by
    unfold scompV
    simp only [hJ s hs]
    cases ex : xs[i]? with
    | none =>
      have e2 : i = xs.length := by
        have := List.getElem?_eq_none_iff.mp ex
        omega
      subst e2
      rw [List.take_length] at ha
      exact ⟨s, rfl, hs, ha⟩
    | some x =>
      have hlt := (List.getElem?_eq_some_iff.mp ex).1
      obtain ⟨σ1, s2, e1, e2, x2, e3⟩ := h i x ex s hs
      have ht : (xs.take (i + 1)).filterMap φ = (xs.take i).filterMap φ ++ (φ x).toList := by
        rw [List.take_add_one, ex, List.filterMap_append]
        cases hx : φ x <;> simp [hx]
      cases hx : φ x with
      | none =>
        rw [hx] at e2 ht
        simp only [e1, e2, bnd_some, Option.isSome_none, Bool.false_eq_true, if_false]
        exact scomp_loop φ hn hz hJ h m (i + 1) _ (hs.trans x2) (by rw [ht, Option.toList_none, List.append_nil]; exact x2.at ha) hlt (by omega)
      | some y =>
        obtain ⟨s3, e4, x3⟩ := e3 y hx
        rw [hx] at e2 ht
        have hs3 := (hs.trans x2).trans x3
        have ha3 := x3.at (x2.at ha)
        have ga : getS s3 n = some ((setK ((xs.take i).filterMap φ)).map ofKey) := getS_of ha3
        have hl : (setK ((xs.take i).filterMap φ)).length < 4000 := by
          have h1 := List.length_filterMap_le φ (xs.take i)
          rw [List.length_take] at h1
          have h2 := @len_fold ((xs.take i).filterMap φ) []
          show (List.foldl addK [] _).length < 4000
          simp only [List.length_nil] at h2
          omega
        have hn2 : n < s3.length := (List.getElem?_eq_some_iff.mp ha3).1
        simp only [e1, e2, bnd_some, Option.isSome_some, if_true, e4, ga, addD_of hl]
        refine scomp_loop φ hn hz hJ h m (i + 1) _ (hs3.set hn) ?_ hlt (by omega)
        rw [List.getElem?_set_self hn2, ht, Option.toList_some]
        unfold setK
        rw [List.foldl_append]
        rfl
theorem scomp_ok {vs : List Nat} {i : SJ} {g : Tg} {c : ST} {e : SE} {σ : Sl} {st st1 : Sto} {J : It} {xs : List D} (φ : D → Option Key) (hi : i σ st = some (J, st1)) (hz : xs.length < 4000) (hJ : ∀ s, Ext st1 s → items J s = some xs)
    (h : ∀ (i : Nat) (x : D), xs[i]? = some x → ∀ st, Ext st1 st → ∃ σ1 st2, g x (wipeD σ vs) = some σ1 ∧ c σ1 st = some ((φ x).isSome, st2) ∧ Ext st st2 ∧ ∀ y, φ x = some y → ∃ st3, e σ1 st2 = some (ofKey y, st3) ∧ Ext st2 st3) :
    ∃ s2, scompF vs i g c e σ st = some (.loc st1.length, s2) ∧ Ext st1 s2 ∧ s2[st1.length]? = some (.set ((setK (xs.filterMap φ)).map ofKey)) := by
  obtain ⟨s2, e2, x2, g2⟩ := scomp_loop (n := st1.length) (σ0 := wipeD σ vs) φ (Nat.le_refl _) hz hJ h (xs.length + 1) 0 (st1 ++ [.set []]) (Ext.app _) (by simp [setK]) (Nat.zero_le _) (by omega)
  refine ⟨s2, ?_, x2, g2⟩
  unfold scompF
  simp only [hi, bnd_some, hJ st1 Ext.refl, e2, Option.map_some]
theorem sortedB_lst {n : Nat} {st : Sto} {xs ys : List D} (h : st[n]? = some (.lst xs)) (e : sortD xs = some ys) : sortedB [.loc n] st = some (.loc st.length, st ++ [.lst ys]) := by
  simp only [sortedB, h, e, Option.map_some]
theorem sortedB_set {n : Nat} {st : Sto} {xs ys : List D} (h : st[n]? = some (.set xs)) (hl : xs.length ≤ LIM) (e : sortD xs = some ys) : sortedB [.loc n] st = some (.loc st.length, st ++ [.lst ys]) := by
  simp only [sortedB, h, hl, if_true, e, Option.map_some]
end Iv

namespace Iv
open PySem L2 PySem.Spec
/-! ### t[lo:hi] of a tuple, the object told: texts may stand in it alone -/
section
variable {X : Cx} {K : PySem.W.Frag} {ww : World}
def rSlN (K : PySem.W.Frag) : V → Option Int → Option Int → Hp → VK → Prop := fun x lo hi H Q => ∃ a xs, x = .ref a ∧ SqT K H a xs ∧
  (HT.sIx xs.length 0 lo = 0 ∧ HT.sIx xs.length xs.length hi = xs.length → Q (.ref a) H) ∧ (¬ (HT.sIx xs.length 0 lo = 0 ∧ HT.sIx xs.length xs.length hi = xs.length) → ∀ (p : Addr) (o : Obj), H p = none → o.cls = .type "tuple" → o.dict = none → Q (.ref p) (upd H p (.frz o (.tup (cutV xs lo hi)))))
theorem sl_tupN : SlR X (rSlN X.K) := by
  intro pins s σ H x v vl vu lo hi sl Q I rx hs pl pu h
  obtain ⟨a, xs, rfl, hx, q1, q2⟩ := h
  cases rx
  obtain ⟨its, r, ht, hz⟩ := I.tuple hx
  have hlen : its.toArray.size = xs.length := by rw [List.size_toArray]; exact r.length.symm
  refine ⟨"tuple", _, PyProof.Rows.slot_tuple_getitem.lookup, ht.typeIs, ?_⟩
  by_cases hw : HT.sIx xs.length 0 lo = 0 ∧ HT.sIx xs.length xs.length hi = xs.length
  · exact getItem_tuple_whole ht hs pl pu (by rw [hlen]; exact hw) ⟨.ref a, H, I, rfl, q1 hw⟩
  · refine HT.getItem_tuple_cut ht hs pl pu (by rw [hlen]; exact hw) ?_ (by rw [hlen]; exact hz)
    rw [hlen]
    exact ⟨.ref s.heap.objs.size, _, I.laid (t' := s.toks) (o := .frz _ (.tup (cutV xs lo hi))) (fun b ob q => Heap.get?_push_of_some _ q) (Nat.le_refl _) ⟨Heap.get?_push_size _ rfl, Nat.le_trans (cutV_length xs lo hi) hz, _, (r.drop (HT.sIx xs.length 0 lo)).take (HT.sIx xs.length xs.length hi - HT.sIx xs.length 0 lo), ⟨_, Heap.get?_push_size _ rfl, rfl, _, rfl⟩⟩, rfl, q2 hw _ _ (I.hok.fresh (Nat.le_refl _)) rfl rfl⟩
def cutN : OpS := fun x lo hi st => match x with
  | .tup xs => some (.tup (cutD xs lo hi), st)
  | x => cutO x lo hi st
@[simp] theorem cutN_tup {xs : List D} {lo hi : Option Int} {st : Sto} : cutN (.tup xs) lo hi st = some (.tup (cutD xs lo hi), st) := rfl
theorem ok_cutN : OkS K ww (fun x lo hi H Q => (fun x lo hi H Q => rSlL K x lo hi H Q ∨ rSlA K x lo hi H Q ∨ rSlS x lo hi H Q) x lo hi H Q ∨ rSlN K x lo hi H Q) cutN := by
  intro H μ st x vx lo hi d st' Q g rx hv k
  cases x with
  | tup xs =>
    simp only [cutN_tup] at hv
    cases hv
    have rx' := rx
    simp only [Rep] at rx
    obtain ⟨p, ws, rfl, ⟨s, _⟩, rs⟩ := rx
    refine .inr ⟨p, ws, rfl, s, fun ⟨e1, e2⟩ => ?_, fun _ => new_tup g (cut_reps rs lo hi) k⟩
    have e : cutD xs lo hi = xs := by
      unfold cutD
      rw [rs.len, e1, e2, List.drop_zero, Nat.sub_zero, ← rs.len, List.take_length]
    rw [e] at k
    exact here k g rx'
  | _ => exact .inl (ok_cut _ _ _ _ _ _ _ _ _ _ g rx hv k)
theorem e_sliceN {e : Expr} {lo hi : Option Expr} {p2 pos : Pos} {f : SE} {l h : SO} (he : PE X e (rdE X.K X.w f)) (hl : PO X lo (rdO X.K X.w l)) (hh : PO X hi (rdO X.K X.w h)) :
    PE X (.Subscript e (.Slice lo hi none p2) pos) (rdE X.K X.w (slF cutN f l h)) := se_slice (SlR.or (SlR.or sl_list (SlR.or sl_tupA sl_str)) sl_tupN) ok_cutN he hl hh
end
end Iv

/-! enumerate of a tuple -/
namespace PySem
open Sem (wp)
theorem meets_enum_tup (l : Addr) (items : Array Value) :
    Meets (Builtin.«enumerate.__new__» ⟨[.type "enumerate", .ref l], []⟩) (fun _ R s => s.heap.IsTuple l items ∧
      R (.ok (.ret (.ref (s.heap.push { cls := .type "tuple_iterator", data := .fields #[.ref l, .int 0 0] }).objs.size)))
        { s with heap := (s.heap.push { cls := .type "tuple_iterator", data := .fields #[.ref l, .int 0 0] }).push { cls := .type "enumerate", data := .fields #[.none, .bool false, .ref s.heap.objs.size, rawInt 0, .none, .none] } }) :=
  .of_wp fun prog w A R s h => by
    obtain ⟨hp, g, d, tk, os⟩ := s; obtain ⟨hl, h⟩ := h
    have hsub := sub_enumerate
    have q1 : ∀ {A' : Around} {E : Value → Shared → Prop} {Q : Value → Shared → Prop}, Q (.ref hp.objs.size) ⟨hp.push { cls := .type "tuple_iterator", data := .fields #[.ref l, .int 0 0] }, g, d, tk, os⟩ → wpAny (model prog w) A' (pyIter (.ref l)) Q E ⟨hp, g, d, tk, os⟩ :=
      fun q => wpAny_pyIter_tuple (s := ⟨hp, g, d, tk, os⟩) hl q
    wp_walk using q1
    refine wpAny_stack_any fun st => wpAny_pure ?_
    split
    · rename_i c _ _ _ _ _
      cases (c == Value.type "enumerate")
      · wp_walk using q1
        exact ⟨_, rfl, h⟩
      · wp_walk using q1
        exact ⟨_, rfl, h⟩
    · wp_walk using q1
      exact ⟨_, rfl, h⟩
section
variable {prog : Program} {w : World} {A : Around} {E : Value → Shared → Prop} {s : Shared}
theorem call_enum_tup {l : Addr} {items : Array Value} {Q : Value → Shared → Prop} (hL : s.heap.IsTuple l items)
    (h : ∀ h', IsEnum h' (s.heap.objs.size + 1) s.heap.objs.size 0 .none → h'.IsTupleIter s.heap.objs.size l 0 → h'.objs.size = s.heap.objs.size + 2 →
      (∀ b o, s.heap.get? b = some o → h'.get? b = some o) → Q (.ref (s.heap.objs.size + 1)) { s with heap := h' }) :
    wpAny (model prog w) A (call (.type "enumerate") [.ref l]) Q E s := by
  refine callType_new F.called_enumerate (by decide) (F.typeCall_enumerate_1 _) (F.newCall_enumerate_1 _) (fun obj => F.args_object_init_2 obj _) F.entry_enumerate_new
    (meets_enum_tup l items) ⟨hL, ?_⟩
  have hz : (s.heap.push { cls := .type "tuple_iterator", data := .fields #[.ref l, .int 0 0] }).objs.size = s.heap.objs.size + 1 := Heap.size_push ..
  show _ ∧ _
  rw [hz]
  have he : IsEnum ((s.heap.push { cls := .type "tuple_iterator", data := .fields #[.ref l, .int 0 0] }).push
      { cls := .type "enumerate", data := .fields #[.none, .bool false, .ref s.heap.objs.size, rawInt 0, .none, .none] }) (s.heap.objs.size + 1) s.heap.objs.size 0 .none := by
    have := Heap.get?_push_size (s.heap.push { cls := .type "tuple_iterator", data := .fields #[.ref l, .int 0 0] })
      (o := { cls := .type "enumerate", data := .fields #[.none, .bool false, .ref s.heap.objs.size, rawInt 0, .none, .none] }) rfl
    rw [hz] at this; exact this
  refine ⟨⟨_, he, rfl⟩, h _ he ⟨_, Heap.get?_push_of_some _ (Heap.get?_push_size _ rfl), rfl, rfl⟩ (by rw [Heap.size_push, hz]) fun b o x => Heap.get?_push_of_some _ (Heap.get?_push_of_some _ x)⟩
end
/-- a tuple iterator that is done -/
theorem draws_end {prog : Program} {w : World} {A : Around} (hh : A.handled = none) (it t : Addr) (items : Array Value) (i : Nat) (hx : items[i]? = none) :
    Draws prog w A it [it, t] 0 (fun _ _ => False) (fun _ h => h.IsTupleIter it t i ∧ h.IsTuple t items) where
  live := fun _ _ st => let ⟨o, ho, _⟩ := st.1; ⟨o, ho⟩
  frame := fun _ _ _ st hk => ⟨st.1.at fun o e => hk it (by simp) o e, st.2.at fun o e => hk t (by simp) o e⟩
  item := fun i s Q E hi st hQ => absurd hi (Nat.not_lt_zero _)
  done := fun s Q E st hE => wpAny_nextOf_tuple_end hh st.1 st.2 hx hE
end PySem
namespace L2
open PySem PySem.Spec PyProof.Rows
/-- the tuple at a, each item in a new pair -/
def IteT (K : PySem.W.Frag) (a : Addr) : It :=
  ⟨fun i H => ∃ (xs : List V) (x : V), SqT K H a xs ∧ xs[i]? = some x, fun i H v H' => ∃ T x, v = .ref T ∧ H T = none ∧ H' = upd H T (.tup [.int (i : Nat), x]) ∧ ∀ xs, SqT K H a xs → xs[i]? = some x, fun i H => ∃ xs : List V, SqT K H a xs ∧ xs.length ≤ i⟩
theorem turn_enumT {P : Program} {w : World} {K : PySem.W.Frag} {elts : List Expr} {kk : Nat} {tpos : Pos} (a e it : Addr) :
    Turn P w K (.Tuple elts kk tpos) (IteT K a) [e, it] e (fun i h => (∃ old, IsEnum h e it ((i : Nat) : Int) old) ∧ h.IsTupleIter it a i ∧ e ≠ it ∧ a ≠ it ∧ e ≠ a) where
  mem := by simp
  obj := fun i h st b hb => by
    obtain ⟨⟨old, he⟩, ⟨o, ho, hc, hd⟩, _⟩ := st
    have e' : b = e ∨ b = it := by simpa using hb
    rcases e' with z | z
    · rw [z]; exact ⟨_, he, fun v q => nomatch q⟩
    · rw [z]; exact ⟨o, ho, fun v q => by rw [hd] at q; cases q⟩
  keep := fun i h h' st k => let ⟨⟨old, he⟩, hi, hne⟩ := st; ⟨⟨old, k e (by simp) _ he⟩, hi.at fun o q => k it (by simp) o q, hne⟩
  item := by
    intro X hP hw hK hc i pins s σ H E I hf st hg
    subst hP hw hK
    obtain ⟨⟨old, he⟩, hit, hne, hai, hea⟩ := st
    obtain ⟨xs, x, hq, hx⟩ := hg
    obtain ⟨its, rv, p, hz⟩ := I.tuple hq
    obtain ⟨u, hu, ru⟩ := rv.get hx
    have hel : e < s.heap.objs.size := Heap.lt_size he
    have hil : it < s.heap.objs.size := by obtain ⟨_, q, _⟩ := hit; exact Heap.lt_size q
    have D := Draws.tuple (prog := X.prog) (w := X.w) (A := X.A.in1) (I.ok.hd hc) it a hai its.toArray
    have hlt : i < its.toArray.size := by
      rw [List.size_toArray]
      exact (List.getElem?_eq_some_iff.mp hu).1
    refine wpAny_pyNext_enum_itemD D he ⟨hit, show s.heap.IsTuple a its.toArray from p⟩ hlt hne (by simp [hne, hea]) fun y h' tk hy ho hit' hT hsz hk => ?_
    have hyu : y = u := by
      have h1 : its[i]? = some y := by simpa using hy
      rw [hu] at h1
      exact (Option.some.inj h1).symm
    subst hyu
    refine ⟨_, rfl, wpAny_letOwnedTupleGo_enum (s := { s with heap := h', toks := tk + 1 }) ho fun h'' he' sb => ?_⟩
    have hT2 : h''.get? s.heap.objs.size = some { cls := .type "tuple", data := .seq #[.int i tk, y] } := (sb.2 _ (Nat.ne_of_gt hel)).trans hT
    have new : ObjOk X.prog X.w (upd H s.heap.objs.size (.tup [.int (i : Nat), x])) h'' s.heap.objs.size (.tup [.int (i : Nat), x]) :=
      ⟨by show 2 ≤ sizeLine; decide, [.int i tk, y], .cons ⟨_, rfl⟩ (.cons ru .nil), ⟨_, hT2, rfl, _, rfl⟩⟩
    have I1 : Inv X pins σ (upd H s.heap.objs.size (.tup [.int (i : Nat), x])) { s with heap := h'', toks := tk + 1 } :=
      I.turnedNew (ch := [e, it]) (fun b ob hb q => (sb.2 b (fun z => hb (by simp [z]))).trans (hk b ob (fun z => hb (by simp [z])) (fun z => hb (by simp [z])) q)) hf (Nat.le_refl _) new
    refine ⟨.ref s.heap.objs.size, _, I1, rfl, ⟨_, x, rfl, I.hok.fresh (Nat.le_refl _), rfl, fun ys hy => by rw [I.tuple_inj hy hq]; exact hx⟩, ⟨⟨y, ?_⟩, hit'.1.at fun o q => (sb.2 it (Ne.symm hne)).trans q, hne, hai, hea⟩, fun b hb => ?_⟩
    · have e1 : ((i + 1 : Nat) : Int) = (i : Int) + 1 := by omega
      rw [e1]; exact he'
    · have hb' : b < s.heap.objs.size := by
        have e' : b = e ∨ b = it := by simpa using hb
        rcases e' with z | z
        · rw [z]; exact hel
        · rw [z]; exact hil
      rw [upd_ne (Nat.ne_of_lt hb')]
      exact (hf b hb).1
  done := by
    intro X hP hw hK hc i pins s σ H E I hf st hg
    subst hP hw hK
    obtain ⟨⟨old, he⟩, hit, hne, hai, hea⟩ := st
    obtain ⟨xs, hq, hx⟩ := hg
    obtain ⟨its, rv, p, hz⟩ := I.tuple hq
    obtain ⟨f0, f1, f2, f3, f4, f5⟩ := hf it (by simp)
    have hl := rv.length
    exact wpAny_pyNext_enum_endD (draws_end (prog := X.prog) (w := X.w) (A := X.A.in1) (I.ok.hd hc) it a its.toArray i (by simp; omega)) he ⟨hit, show s.heap.IsTuple a its.toArray from p⟩ fun h' eb => ⟨rfl, I.turned (t' := s.toks) (fun b o hb q => eb b o hb q) f0 f1 f3 f4 f5⟩
  self := fun A i s Q E st h => let ⟨⟨_, he⟩, _⟩ := st; wpAny_pyIter_enum he h
def iEnumU (K : PySem.W.Frag) (ta : TA) : TI := fun σ H R => ta σ H fun vs H1 => ∃ a xs, vs = [.ref a] ∧ ((SqL K H1 a xs ∧ R (Ite K a) H1) ∨ (SqT K H1 a xs ∧ R (IteT K a) H1))
theorem pi_enumU {X : Cx} {e : Expr} {ta : TA} {p pos tpos : Pos} {elts : List Expr} {kk : Nat} (hg : Gl X "enumerate") (hm : X.mg "enumerate" = none) (ha : PA X [e] ta) (hs : starEach [e] X.env = [(false, eval e X.env)] := by rfl) :
    PI X (.Tuple elts kk tpos) (.Call (.Name "enumerate" p) [e] [] pos) (iEnumU X.K ta) := by
  refine ⟨fun pins s σ H R I h => ?_⟩
  refine PyProof.Rows.Call_ (ld_blt I hg hm boot_enumerate (PyProof.Rows.callWith_type1 (thn (ha.run pos pins s σ H _ I h) fun us s1 ⟨vs, H1, I1, r1, q1⟩ => ?_) hs rfl))
  obtain ⟨a, xs, ex, q⟩ := q1
  subst ex
  cases r1 with
  | cons r rr =>
    cases rr
    cases r
    have fpb : ∀ b, b = s1.heap.objs.size + 1 ∨ b = s1.heap.objs.size → FpOk X pins H1 b := fun b e' => by
      have hle : s1.heap.objs.size ≤ b := by
        rcases e' with z | z
        · rw [z]; exact Nat.le_add_right _ _
        · rw [z]; exact Nat.le_refl _
      exact I1.fpOk hle (I1.hok.fresh hle)
    rcases q with ⟨hq, q⟩ | ⟨hq, q⟩
    · obtain ⟨its, rv, p', hz⟩ := I1.list hq
      refine call_enumerate_list p'.isList fun h' he hit hsz hk => wpAny_pyIter_enum he ?_
      have I2 : Inv X pins σ H1 { s1 with heap := h' } := I1.kept (t' := s1.toks) hk
      refine ⟨s1.heap.objs.size + 1, [s1.heap.objs.size + 1, s1.heap.objs.size], _, _, H1, rfl, I2, turn_enum a (s1.heap.objs.size + 1) s1.heap.objs.size, ⟨⟨.none, he⟩, hit, Nat.succ_ne_self _⟩, fun b hb => fpb b (by simpa using hb), q⟩
    · obtain ⟨its, rv, p', hz⟩ := I1.tuple hq
      have hal : a < s1.heap.objs.size := by
        have p2 : s1.heap.IsTuple a its.toArray := p'
        obtain ⟨o, ho, _⟩ := p2
        exact Heap.lt_size ho
      refine call_enum_tup (show s1.heap.IsTuple a its.toArray from p') fun h' he hit hsz hk => wpAny_pyIter_enum he ?_
      have I2 : Inv X pins σ H1 { s1 with heap := h' } := I1.kept (t' := s1.toks) hk
      refine ⟨s1.heap.objs.size + 1, [s1.heap.objs.size + 1, s1.heap.objs.size], _, _, H1, rfl, I2, turn_enumT a (s1.heap.objs.size + 1) s1.heap.objs.size, ⟨⟨.none, he⟩, hit, Nat.succ_ne_self _, Nat.ne_of_lt hal, Nat.ne_of_gt (Nat.lt_succ_of_lt hal)⟩, fun b hb => fpb b (by simpa using hb), q⟩
end L2
namespace Iv
open PySem L2 PySem.Spec
section
variable {X : Cx} {K : PySem.W.Frag} {ww : World}
def enmU (f : SA) : SJ := fun σ st => bnd (f σ st) fun ds s1 => match ds with
  | [.loc n] => (getL s1 n).map fun _ => (.enm n, s1)
  | [.tup xs] => some (.cns (enumD 0 xs), s1)
  | _ => none
@[simp] theorem enmU_eq {f : SA} {σ : Sl} {st : Sto} : enmU f σ st = bnd (f σ st) fun ds s1 => match ds with
  | [.loc n] => (getL s1 n).map fun _ => (.enm n, s1)
  | [.tup xs] => some (.cns (enumD 0 xs), s1)
  | _ => none := rfl
theorem si_enumU {e : Expr} {f : SA} {p pos tpos : Pos} {elts : List Expr} {kk : Nat} (hg : Gl X "enumerate") (hm : X.mg "enumerate" = none) (ha : PA X [e] (rdA X.K X.w f)) (hs : starEach [e] X.env = [(false, eval e X.env)] := by rfl) :
    PI X (.Tuple elts kk tpos) (.Call (.Name "enumerate" p) [e] [] pos) (rdI X.K X.w (enmU f)) := ⟨fun pins s τ H R I hw => by
  obtain ⟨μ, st, σ, J, st', gd, er, hv, k⟩ := hw
  obtain ⟨ds, s1, h1, hv⟩ := bnd_eq hv
  split at hv
  · rename_i n
    refine (si_enum hg hm ha hs).run pins s τ H R I ⟨μ, st, σ, J, st', gd, er, ?_, k⟩
    show bnd (f σ st) _ = _
    rw [h1]
    exact hv
  · rename_i xs
    cases hv
    refine (pi_enumU hg hm ha hs).run pins s τ H R I ⟨μ, st, σ, _, _, gd, er, h1, fun μ1 H1 vs g1 d1 r1 => ?_⟩
    obtain ⟨v, rfl, rv⟩ := reps1 r1
    simp only [Rep] at rv
    obtain ⟨p, us, rfl, ⟨su, _⟩, ru⟩ := rv
    refine ⟨p, us, rfl, .inr ⟨su, k μ1 H1 _ g1 d1 fun μ2 H2 st2 zs g2 d2 e2 => ?_⟩⟩
    cases e2
    have su2 := g2.1.sqT su
    have ru2 := ru.m g2
    refine ⟨fun i hi => ⟨us, su2, by rw [← ru2.len, ← enumD_len xs 0]; exact hi⟩, fun i d hd => ?_⟩
    rw [enumD_get] at hd
    cases e4 : xs[i]? with
    | none => rw [e4] at hd; cases hd
    | some z =>
      rw [e4] at hd
      cases hd
      obtain ⟨v, hv1, rv⟩ := ru2.get e4
      refine ⟨⟨us, v, su2, hv1⟩, fun x H3 ⟨T, y, e5, e6, e7, e8⟩ => ?_⟩
      subst e5 e7
      have e9 := e8 us su2
      rw [hv1] at e9
      cases e9
      have gt : Gr H2 μ2 (upd H2 T (.tup [.int (i : Nat), v])) μ2 := gr_tup e6
      refine ⟨same_upd e6, rep_tup (.inl (.inl upd_same)) (fun z => by cases z) (reps_cons ?_ (reps_cons (rv.m gt) reps_nil))⟩
      simp only [Rep, Nat.zero_add]
  · cases hv⟩
end
end Iv

namespace Iv
open PySem L2
/-! ### l.index(x), l a list of texts -/
section
variable {X : Cx} {K : PySem.W.Frag} {ww : World}
def lidxO : OpM := fun x ys st => match x, ys with
  | .loc n, [.str z] => match getL st n with
    | none => none
    | some xs => (strsD xs).bind fun zs => (idxS zs z).map fun j => (.int (j : Nat), st)
  | _, _ => none
@[simp] theorem lidxO_eq {n : Nat} {z : Str} {st : Sto} : lidxO (.loc n) [.str z] st = (match getL st n with
    | none => none
    | some xs => (strsD xs).bind fun zs => (idxS zs z).map fun j => (.int (j : Nat), st)) := rfl
theorem ok_lidx : OkM K ww (fun x xs H Q => rIndex K x xs H Q) lidxO := by
  intro H μ st x xs vx vs d st' Q g rx r hv k
  unfold lidxO at hv
  split at hv
  · rename_i n z
    simp only [Rep] at rx
    obtain ⟨p, rfl, hp⟩ := rx
    obtain ⟨v, rfl, rv⟩ := reps1 r
    simp only [Rep] at rv
    cases e : getL st n with
    | none => rw [e] at hv; cases hv
    | some xs =>
      rw [e] at hv
      obtain ⟨ws, s, rs⟩ := g.getL hp e
      cases e2 : strsD xs with
      | none => simp only [e2] at hv; cases hv
      | some zs =>
        simp only [e2, Option.bind_some] at hv
        cases e3 : idxS zs z with
        | none => rw [e3] at hv; cases hv
        | some j =>
          rw [e3] at hv
          cases hv
          obtain ⟨q1, q2⟩ := idxS_ok e3
          have ew := strs_of rs e2
          subst ew
          refine ⟨p, zs.map V.str, .str z, j, .str z, rfl, by rw [rv], s, rfl, by simp [flatV], by rw [List.getElem?_map, q1]; rfl, by simp [eqV], fun m z' hm hz' => ?_, here k g (by simp only [Rep])⟩
          rw [List.getElem?_map] at hz'
          cases e4 : zs[m]? with
          | none => rw [e4] at hz'; cases hz'
          | some y =>
            rw [e4] at hz'
            cases hz'
            have : y ≠ z := fun h => q2 m hm (by rw [e4, h])
            simp [eqV, this]
  · cases hv
theorem e_lidx {o e : Expr} {apos cpos : Pos} {f : SE} {g : SA} (ho : PE X o (rdE X.K X.w f)) (ha : PA X [e] (rdA X.K X.w g))
    (hbase : attributeBase o "index" X.env (eval o X.env) = eval o X.env := by rfl)
    (hfew : ((backTo cpos (starEach [e] X.env)).all (fun x => !x.1) && (backToKw cpos (keywordEach [] X.env)).all (fun x => x.1.isSome)
      && decide ([e].length + ([] : List Keyword).length + (if ([] : List Keyword).isEmpty then 0 else 1) < 30)) = true := by rfl)
    (hline : (apos.endLine == cpos.line) = true := by rfl) (hs : starEach [e] X.env = (false, eval e X.env) :: starEach [] X.env := by rfl) :
    PE X (.Call (.Attribute o "index" apos) [e] [] cpos) (rdE X.K X.w (bmF "list" lidxO f g)) :=
  se_bm PySem.F.plainAttrs_list PySem.F.slot_list_index PySem.F.type_list_index mt_index ok_lidx ho ha hbase hfew hline hs rfl
end
end Iv

namespace Iv
open PySem PySem.Spec PyProof.Rows L2
/-! ### x in a tuple of data of any depth -/
section
variable {X : Cx} {K : PySem.W.Frag} {ww : World}
def inTO : Op2 := fun x y st => match py st 60 x, py st 60 y with
  | some p, some (.tuple qs) => if SeqAt.shaped p = true ∧ SeqAt.shaped (.tuple qs) = true then some (.bl (qs.any fun z => PyData.eqv z p), st) else none
  | _, _ => none
def rInT (K : PySem.W.Frag) : R2 := fun x y H Q => ∃ d ds, Dp K H x d ∧ Dp K H y (.tuple ds) ∧ SeqAt.shaped d = true ∧ SeqAt.shaped (.tuple ds) = true ∧ Q (.bl (ds.any fun z => PyData.eqv z d)) H
theorem op_inT (hu : X.A.units + 65 < cLine) : OpR X (compareOp .In) (rInT X.K) := by
  intro pins s σ H x y v u Q I rx ry h
  obtain ⟨d, ds, hd, he, sd, se, q⟩ := h
  obtain ⟨as, r1⟩ := Dp.reads I d x v hd rx
  obtain ⟨bs, r2⟩ := Dp.reads I (.tuple ds) y u he ry
  exact SeqAt.in_tuple_reads r2 r1 (SeqAt.canLay_of_shaped se) (SeqAt.canLay_of_shaped sd) (room_in_shaped sd hu) ⟨.bl _, H, I, rfl, q⟩
theorem ok_inT : Ok2 K ww (rInT K) inTO := by
  intro H μ st x y vx vy d st' Q g rx ry hv k
  unfold inTO at hv
  split at hv
  · rename_i p qs e2 e3
    split at hv
    · rename_i hs
      cases hv
      exact ⟨p, qs, py_dp g _ _ _ _ e2 rx, py_dp g _ _ _ _ e3 ry, hs.1, hs.2, here k g (by simp only [Rep])⟩
    · cases hv
  · cases hv
theorem cm_inT (hu : X.A.units + 65 < cLine) : Cmp X .In inTO := ⟨⟨_, op_inT hu, ok_inT⟩, fun x y st d st' h => by
  unfold inTO at h
  repeat' split at h
  all_goals first | (cases h; exact ⟨_, rfl⟩) | cases h⟩
end
end Iv

/-! Iv: exceptions: what a def that raises means, raise, try. -/
namespace Iv
open PySem L2 PySem.Spec
inductive RX where
  | ok (r : R) | exc (σ : Sl) (c : Str) (ds : List D)
inductive DX where
  | ok (d : D) | exc (c : Str) (ds : List D)
abbrev SX := Sl → Sto → Option (RX × Sto)
abbrev SEX := Sl → Sto → Option (DX × Sto)
abbrev SAX := Sl → Sto → Option ((List D ⊕ (Str × List D)) × Sto)
abbrev Fy := List D → Sto → Option (DX × Sto)
/-- the fields of the program's errors -/
def flds (c : Str) : List Str := if c = "ProgramFault" then ["line", "word"] else if c = "NotEnabled" then ["at"] else if c = "TooMany" then ["limit"] else if c = "NoSuchPlace" then ["word"] else []
/-- an error's dict holds what it was made with -/
def XfR (K : PySem.W.Frag) (H : Hp) (μ : List Addr) (c : Str) (ds : List D) (fs : List (Str × V)) : Prop := ∀ (j : Nat) (f : Str) (d : D), (flds c)[j]? = some f → ds[j]? = some d → ∃ v, fs.lookup f = some v ∧ Rep K H μ d v
theorem XfR.m {K : PySem.W.Frag} {H H' : Hp} {μ μ' : List Addr} {c : Str} {ds : List D} {fs : List (Str × V)} (h : XfR K H μ c ds fs) (g : Gr H μ H' μ') : XfR K H' μ' c ds fs := fun j f d h1 h2 => let ⟨v, e, r⟩ := h j f d h1 h2; ⟨v, e, r.m g⟩
/-- an error flies: what is wanted of it -/
def ThrX (K : PySem.W.Frag) (ww : World) (mg : Str → Option Value) (H : Hp) (μ : List Addr) (st' : Sto) (c : Str) (ds : List D) (E : Value → Option Addr → List Addr → Hp → Prop) : Prop :=
  ∀ μ' H' C dd fs, Gr H μ H' μ' → Gd K ww H' μ' st' → mg c = some (.ref C) → H' dd = some (.xd fs) → XfR K H' μ' c ds fs → E (.ref C) (some dd) μ' H'
theorem ThrX.m {K : PySem.W.Frag} {ww : World} {mg : Str → Option Value} {H H1 : Hp} {μ μ1 : List Addr} {st' : Sto} {c : Str} {ds : List D} {E : Value → Option Addr → List Addr → Hp → Prop} (h : ThrX K ww mg H μ st' c ds E) (g : Gr H μ H1 μ1) : ThrX K ww mg H1 μ1 st' c ds E :=
  fun μ' H' C dd fs g2 gd a b c => h μ' H' C dd fs (g.trans g2) gd a b c
theorem ThrX.imp {K : PySem.W.Frag} {ww : World} {mg : Str → Option Value} {H : Hp} {μ : List Addr} {st' : Sto} {c : Str} {ds : List D} {E E' : Value → Option Addr → List Addr → Hp → Prop} (h : ThrX K ww mg H μ st' c ds E) (k : ∀ C d μ' H', Gr H μ H' μ' → E C d μ' H' → E' C d μ' H') : ThrX K ww mg H μ st' c ds E' :=
  fun μ' H' C dd fs g2 gd a b c => k _ _ _ _ g2 (h μ' H' C dd fs g2 gd a b c)
def FinX (K : PySem.W.Frag) (ww : World) (mg : Str → Option Value) (H : Hp) (μ : List Addr) (st' : Sto) (Dn : Ends) (W : WX) : RX → Prop
  | .ok r => Fin K ww H μ st' Dn r
  | .exc σ c ds => ThrX K ww mg H μ st' c ds fun C d μ' H' => ∀ τ', EnvR K H' μ' σ τ' → W C d τ' H'
theorem FinX.m {K : PySem.W.Frag} {ww : World} {mg : Str → Option Value} {H H' : Hp} {μ μ' : List Addr} {st' : Sto} {Dn : Ends} {W : WX} : ∀ {r : RX}, FinX K ww mg H μ st' Dn W r → Gr H μ H' μ' → FinX K ww mg H' μ' st' Dn W r
  | .ok _, h, g => Fin.m h g
  | .exc σ c ds, h, g => ThrX.m (E := fun C d μ' H' => ∀ τ', EnvR K H' μ' σ τ' → W C d τ' H') h g
def rdX (K : PySem.W.Frag) (ww : World) (mg : Str → Option Value) (W : WX) (f : SX) : TS := fun Dn τ H => ∃ μ st σ r st', Gd K ww H μ st ∧ EnvR K H μ σ τ ∧ f σ st = some (r, st') ∧ FinX K ww mg H μ st' Dn W r
def FinE (K : PySem.W.Frag) (ww : World) (mg : Str → Option Value) (H : Hp) (μ : List Addr) (st' : Sto) (Q : VK) (W : Value → Option Addr → Hp → Prop) : DX → Prop
  | .ok d => ∀ μ' H' v, Gr H μ H' μ' → Gd K ww H' μ' st' → Rep K H' μ' d v → Q v H'
  | .exc c ds => ThrX K ww mg H μ st' c ds fun C d _ H' => W C d H'
def rdEX (K : PySem.W.Frag) (ww : World) (mg : Str → Option Value) (W : WX) (f : SEX) : TE := fun τ H Q => ∃ μ st σ r st', Gd K ww H μ st ∧ EnvR K H μ σ τ ∧ f σ st = some (r, st') ∧ FinE K ww mg H μ st' Q (fun C d H' => W C d τ H') r
def FinA (K : PySem.W.Frag) (ww : World) (mg : Str → Option Value) (H : Hp) (μ : List Addr) (st' : Sto) (Q : List V → Hp → Prop) (W : Value → Option Addr → Hp → Prop) : List D ⊕ (Str × List D) → Prop
  | .inl ds => ∀ μ' H' vs, Gr H μ H' μ' → Gd K ww H' μ' st' → Reps K H' μ' ds vs → Q vs H'
  | .inr p => ThrX K ww mg H μ st' p.1 p.2 fun C d _ H' => W C d H'
def rdAX (K : PySem.W.Frag) (ww : World) (mg : Str → Option Value) (W : WX) (f : SAX) : TA := fun τ H Q => ∃ μ st σ r st', Gd K ww H μ st ∧ EnvR K H μ σ τ ∧ f σ st = some (r, st') ∧ FinA K ww mg H μ st' Q (fun C d H' => W C d τ H') r
section
variable {X : Cx} {K : PySem.W.Frag} {ww : World} {mg : Str → Option Value} {W : WX}
/-! ### what raises nothing -/
def liftX (f : SS) : SX := fun σ st => (f σ st).map fun p => (.ok p.1, p.2)
theorem rd_lift {f : SS} : ∀ Dn τ H, rdX K ww mg W (liftX f) Dn τ H → rdS K ww f Dn τ H := fun Dn τ H ⟨μ, st, σ, r, st', gd, er, hv, k⟩ => by
  unfold liftX at hv
  cases e : f σ st with
  | none => rw [e] at hv; cases hv
  | some p =>
    rw [e] at hv
    cases hv
    exact ⟨μ, st, σ, p.1, p.2, gd, er, e, k⟩
theorem sx_lift {s : Stmt} {f : SS} (h : PS X s (rdS K ww f)) : PS X s (rdX K ww mg W (liftX f)) := h.weak rd_lift
theorem sxs_lift {s : List Stmt} {f : SS} (h : PSs X s (rdS K ww f)) : PSs X s (rdX K ww mg W (liftX f)) := h.weak rd_lift
/-- .. in a context that knows of no error -/
theorem sxs_nox {s : List Stmt} {f : SS} (h : PSs X.nox s (rdS K ww f)) : PSs X s (rdX K ww mg W (liftX f)) := sxs_lift h.nox
def liftE (f : SE) : SEX := fun σ st => (f σ st).map fun p => (.ok p.1, p.2)
theorem ex_lift {e : Expr} {f : SE} (h : PE X e (rdE K ww f)) : PE X e (rdEX K ww mg W (liftE f)) := h.weak fun τ H Q ⟨μ, st, σ, r, st', gd, er, hv, k⟩ => by
  unfold liftE at hv
  cases e : f σ st with
  | none => rw [e] at hv; cases hv
  | some p =>
    rw [e] at hv
    cases hv
    exact ⟨μ, st, σ, p.1, p.2, gd, er, e, k⟩
/-! ### blocks -/
def seqX (f g : SX) : SX := fun σ st => match f σ st with
  | some (.ok (.nx σ'), st1) => g σ' st1
  | r => r
theorem sx_nil : PSs X [] (rdX K ww mg W (liftX nxS)) := sxs_lift ss_nil
theorem sx_one {s : Stmt} {f : SX} (h : PS X s (rdX K ww mg W f)) : PSs X [s] (rdX K ww mg W f) := pss_one h
theorem sx_cons {s : Stmt} {rest : List Stmt} {f g : SX} (h : PS X s (rdX K ww mg W f)) (h2 : PSs X rest (rdX K ww mg W g)) : PSs X (s :: rest) (rdX K ww mg W (seqX f g)) := (pss_cons h h2).weak fun Dn τ H ⟨μ, st, σ, r, st', gd, er, hv, k⟩ => by
  unfold seqX at hv
  cases e : f σ st with
  | none => rw [e] at hv; cases hv
  | some p =>
    obtain ⟨r1, s1⟩ := p
    rw [e] at hv
    cases r1 with
    | exc σ1 c ds =>
      cases hv
      exact ⟨μ, st, σ, _, _, gd, er, e, k⟩
    | ok r1 =>
      cases r1 with
      | nx σ1 =>
        refine ⟨μ, st, σ, _, s1, gd, er, e, fun μ1 H1 g1 d1 τ1 e1 => ?_⟩
        exact ⟨μ1, s1, σ1, r, st', d1, e1, hv, k.m g1⟩
      | brk σ1 =>
        cases hv
        exact ⟨μ, st, σ, _, _, gd, er, e, k⟩
      | cnt σ1 =>
        cases hv
        exact ⟨μ, st, σ, _, _, gd, er, e, k⟩
      | ret d =>
        cases hv
        exact ⟨μ, st, σ, _, _, gd, er, e, k⟩
def ifX (c : ST) (f g : SX) : SX := fun σ st => bnd (c σ st) fun b st1 => if b = true then f σ st1 else g σ st1
theorem sx_if {c : Expr} {a b : List Stmt} {t : ST} {f g : SX} {pos : Pos} (hc : PT X c (rdT K ww t)) (ha : PSs X a (rdX K ww mg W f)) (hb : PSs X b (rdX K ww mg W g)) : PS X (.If c a b pos) (rdX K ww mg W (ifX t f g)) := (ps_if hc ha hb).weak fun Dn τ H ⟨μ, st, σ, r, st', gd, er, hv, k⟩ => by
  obtain ⟨y, s1, h1, hv⟩ := bnd_eq hv
  refine ⟨μ, st, σ, y, s1, gd, er, h1, fun μ1 H1 g1 d1 => ?_⟩
  cases y with
  | true => exact ⟨μ1, s1, σ, r, st', d1, er.m g1, hv, k.m g1⟩
  | false => exact ⟨μ1, s1, σ, r, st', d1, er.m g1, hv, k.m g1⟩
/-! ### loops -/
def whlXV (c : ST) (b : SX) : Nat → Sl → Sto → Option (RX × Sto)
  | 0, _, _ => none
  | m + 1, σ, st => bnd (c σ st) fun t s1 => if t = true then (match b σ s1 with
      | some (.ok (.nx σ2), s2) => whlXV c b m σ2 s2
      | some (.ok (.cnt σ2), s2) => whlXV c b m σ2 s2
      | some (.ok (.brk σ2), s2) => some (.ok (.nx σ2), s2)
      | r => r) else some (.ok (.nx σ), s1)
def whlX (n : Nat) (c : ST) (b : SX) : SX := fun σ st => whlXV c b n σ st
theorem sx_while {n : Nat} {c : Expr} {body : List Stmt} {t : ST} {b : SX} {pos : Pos} (hp : PassesOwn (model X.prog X.w) X.A X.env X.xe) (hc : PT X c (rdT K ww t)) (hb : PSs X body (rdX K ww mg W b)) : PS X (.While c body [] pos) (rdX K ww mg W (whlX n t b)) :=
  (ps_while hp hc hb).weak fun Dn τ H ⟨μ, st, σ, r, st', gd, er, hv, k⟩ => by
    refine ⟨fun m τ1 H1 => ∃ μ1 s1 σ1, Gd K ww H1 μ1 s1 ∧ EnvR K H1 μ1 σ1 τ1 ∧ whlXV t b m σ1 s1 = some (r, st') ∧ FinX K ww mg H1 μ1 st' Dn W r, ⟨n, μ, st, σ, gd, er, hv, k⟩, ?_⟩
    rintro m τ1 H1 ⟨μ1, s1, σ1, d1, e1, hv1, k1⟩
    cases m with
    | zero => cases hv1
    | succ m =>
      unfold whlXV at hv1
      obtain ⟨y, s2, h2, hv1⟩ := bnd_eq hv1
      refine ⟨μ1, s1, σ1, y, s2, d1, e1, h2, fun μ2 H2 g2 d2 => ?_⟩
      cases y with
      | false =>
        cases hv1
        exact k1 μ2 H2 g2 d2 τ1 (e1.m g2)
      | true =>
        rw [if_pos rfl] at hv1 ⊢
        refine ⟨fun τ3 H3 => ∃ μ3 s3 σ3, Gd K ww H3 μ3 s3 ∧ EnvR K H3 μ3 σ3 τ3 ∧ whlXV t b m σ3 s3 = some (r, st') ∧ FinX K ww mg H3 μ3 st' Dn W r, fun τ3 H3 q => ⟨m, Nat.lt_succ_self m, q⟩, ?_⟩
        cases eb : b σ1 s2 with
        | none => rw [eb] at hv1; cases hv1
        | some p =>
          obtain ⟨r3, s3⟩ := p
          rw [eb] at hv1
          refine ⟨μ2, s2, σ1, r3, s3, d2, e1.m g2, eb, ?_⟩
          cases r3 with
          | exc σ3 c ds =>
            cases hv1
            exact k1.m g2
          | ok r3 =>
            refine fun μ4 H4 g4 d4 => ?_
            cases r3 with
            | nx σ3 => exact fun τ4 e4 => ⟨μ4, s3, σ3, d4, e4, hv1, k1.m (g2.trans g4)⟩
            | cnt σ3 => exact fun τ4 e4 => ⟨μ4, s3, σ3, d4, e4, hv1, k1.m (g2.trans g4)⟩
            | brk σ3 =>
              cases hv1
              exact fun τ4 e4 => k1 μ4 H4 (g2.trans g4) d4 τ4 e4
            | ret d =>
              cases hv1
              exact fun v rv => k1 μ4 H4 (g2.trans g4) d4 v rv
def forXV (J : It) (g : Tg) (b : SX) : Nat → Nat → Sl → Sto → Option (RX × Sto)
  | 0, _, _, _ => none
  | m + 1, i, σ, st => match items J st with
    | none => none
    | some xs => match xs[i]? with
      | none => some (.ok (.nx σ), st)
      | some d => match g d σ with
        | none => none
        | some σ1 => match b σ1 st with
          | some (.ok (.nx σ2), s2) => forXV J g b m (i + 1) σ2 s2
          | some (.ok (.cnt σ2), s2) => forXV J g b m (i + 1) σ2 s2
          | some (.ok (.brk σ2), s2) => some (.ok (.nx σ2), s2)
          | r => r
def forX (i : SJ) (g : Tg) (b : SX) : SX := fun σ st => bnd (i σ st) fun J s1 => match items J s1 with
  | none => none
  | some xs => forXV J g b (xs.length + 1) 0 σ s1
theorem sx_for {tg iter : Expr} {body : List Stmt} {i : SJ} {gg : TG} {g : Tg} {b : SX} {pos : Pos} (hp : PassesOwn (model X.prog X.w) X.A X.env X.xe) (hc : X.calm = true) (hi : PI X tg iter (rdI K ww i)) (hg : PG X tg gg) (ok : OkG K gg g) (hb : PSs X body (rdX K ww mg W b))
    (hs : ∀ x, foldedSetIterable iter X.env x = pure x := by intro _; rfl) : PS X (.For tg iter body [] pos) (rdX K ww mg W (forX i g b)) :=
  (ps_for hp hc hi hg hb hs).weak fun Dn τ H ⟨μ, st, σ, r, st', gd, er, hv, k⟩ => by
    obtain ⟨J, s1, h1, hv⟩ := bnd_eq hv
    cases ei : items J s1 with
    | none => simp only [ei] at hv; cases hv
    | some xs =>
      simp only [ei] at hv
      refine ⟨μ, st, σ, J, s1, gd, er, h1, fun μ0 H0 J' g0 d0 iR => ?_⟩
      refine ⟨fun i m τ1 H1 => ∃ μ1 s1 σ1, Gr H0 μ0 H1 μ1 ∧ Gd K ww H1 μ1 s1 ∧ EnvR K H1 μ1 σ1 τ1 ∧ forXV J g b m i σ1 s1 = some (r, st') ∧ FinX K ww mg H1 μ1 st' Dn W r, ⟨_, μ0, s1, σ, Gr.refl _ _, d0, er.m g0, hv, k.m g0⟩, ?_⟩
      rintro i m τ1 H1 ⟨μ1, s2, σ1, g1, d1, e1, hv1, k1⟩
      cases m with
      | zero => cases hv1
      | succ m =>
        unfold forXV at hv1
        cases e2 : items J s2 with
        | none => simp only [e2] at hv1; cases hv1
        | some ys =>
          simp only [e2] at hv1
          obtain ⟨q1, q2⟩ := iR μ1 H1 s2 ys g1 d1 e2
          cases e3 : ys[i]? with
          | none =>
            simp only [e3] at hv1
            cases hv1
            exact .inl ⟨q1 i (by simpa using e3), k1 μ1 H1 (Gr.refl _ _) d1 τ1 e1⟩
          | some d =>
            simp only [e3] at hv1
            obtain ⟨q3, q4⟩ := q2 i d e3
            refine .inr ⟨q3, fun τ3 H3 => ∃ μ3 s3 σ3, Gr H0 μ0 H3 μ3 ∧ Gd K ww H3 μ3 s3 ∧ EnvR K H3 μ3 σ3 τ3 ∧ forXV J g b m (i + 1) σ3 s3 = some (r, st') ∧ FinX K ww mg H3 μ3 st' Dn W r, fun τ3 H3 q => ⟨m, Nat.lt_succ_self m, q⟩, fun x H2 y => ?_⟩
            obtain ⟨sm, rx⟩ := q4 x H2 y
            have gs : Gr H1 μ1 H2 μ1 := ⟨Keeps.same sm, [], by simp⟩
            have d2 := d1.same sm
            cases e4 : g d σ1 with
            | none => simp only [e4] at hv1; cases hv1
            | some σ2 =>
              simp only [e4] at hv1
              refine ok H2 μ1 σ1 τ1 d x σ2 _ (e1.m gs) rx e4 fun τ2 e5 => ?_
              cases eb : b σ2 s2 with
              | none => simp only [eb] at hv1; cases hv1
              | some p =>
                obtain ⟨r3, s3⟩ := p
                simp only [eb] at hv1
                refine ⟨μ1, s2, σ2, r3, s3, d2, e5, eb, ?_⟩
                cases r3 with
                | exc σ3 c ds =>
                  cases hv1
                  exact k1.m gs
                | ok r3 =>
                  refine fun μ4 H4 g4 d4 => ?_
                  have g5 : Gr H1 μ1 H4 μ4 := gs.trans g4
                  cases r3 with
                  | nx σ3 => exact fun τ4 e4 => ⟨μ4, s3, σ3, g1.trans g5, d4, e4, hv1, k1.m g5⟩
                  | cnt σ3 => exact fun τ4 e4 => ⟨μ4, s3, σ3, g1.trans g5, d4, e4, hv1, k1.m g5⟩
                  | brk σ3 =>
                    cases hv1
                    exact fun τ4 e4 => k1 μ4 H4 g5 d4 τ4 e4
                  | ret d =>
                    cases hv1
                    exact fun v rv => k1 μ4 H4 g5 d4 v rv
/-! ### statements with an expression that may raise -/
def retX (f : SEX) : SX := fun σ st => match f σ st with
  | some (.ok d, s) => some (.ok (.ret d), s)
  | some (.exc c ds, s) => some (.exc σ c ds, s)
  | none => none
def exX (f : SEX) : SX := fun σ st => match f σ st with
  | some (.ok d, s) => some (.ok (.nx σ), s)
  | some (.exc c ds, s) => some (.exc σ c ds, s)
  | none => none
def asgX (g : Tg) (f : SEX) : SX := fun σ st => match f σ st with
  | some (.ok d, s) => (g d σ).map fun σ1 => (.ok (.nx σ1), s)
  | some (.exc c ds, s) => some (.exc σ c ds, s)
  | none => none
theorem sx_ret {e : Expr} {f : SEX} {pos : Pos} (he : PE X e (rdEX K ww mg W f)) : PS X (.Return (some e) pos) (rdX K ww mg W (retX f)) := (ps_ret he).weak fun Dn τ H ⟨μ, st, σ, r, st', gd, er, hv, k⟩ => by
  unfold retX at hv
  cases e : f σ st with
  | none => rw [e] at hv; cases hv
  | some p =>
    obtain ⟨r1, s1⟩ := p
    rw [e] at hv
    cases r1 with
    | ok d =>
      cases hv
      exact ⟨μ, st, σ, _, _, gd, er, e, fun μ1 H1 v g1 d1 r1 => k μ1 H1 g1 d1 v r1⟩
    | exc c ds =>
      cases hv
      exact ⟨μ, st, σ, _, _, gd, er, e, ThrX.imp (E := fun C d μ' H' => ∀ τ', EnvR K H' μ' σ τ' → W C d τ' H') k fun C d μ' H' g z => z τ (er.m g)⟩
theorem sx_expr {e : Expr} {f : SEX} {pos : Pos} (he : PE X e (rdEX K ww mg W f)) (hs : swapsWith e none pos.line X.env = pure false := by rfl) : PS X (.Expr e pos) (rdX K ww mg W (exX f)) := (ps_expr he hs).weak fun Dn τ H ⟨μ, st, σ, r, st', gd, er, hv, k⟩ => by
  unfold exX at hv
  cases e : f σ st with
  | none => rw [e] at hv; cases hv
  | some p =>
    obtain ⟨r1, s1⟩ := p
    rw [e] at hv
    cases r1 with
    | ok d =>
      cases hv
      exact ⟨μ, st, σ, _, _, gd, er, e, fun μ1 H1 v g1 d1 r1 => k μ1 H1 g1 d1 τ (er.m g1)⟩
    | exc c ds =>
      cases hv
      exact ⟨μ, st, σ, _, _, gd, er, e, ThrX.imp (E := fun C d μ' H' => ∀ τ', EnvR K H' μ' σ τ' → W C d τ' H') k fun C d μ' H' g z => z τ (er.m g)⟩
theorem rd_asgX {g : Tg} {gg : TG} {f : SEX} (hg : OkG K gg g) : ∀ Dn τ H, rdX K ww mg W (asgX g f) Dn τ H → tAsg (rdEX K ww mg W f) gg Dn τ H := fun Dn τ H ⟨μ, st, σ, r, st', gd, er, hv, k⟩ => by
  unfold asgX at hv
  cases e : f σ st with
  | none => rw [e] at hv; cases hv
  | some p =>
    obtain ⟨r1, s1⟩ := p
    rw [e] at hv
    cases r1 with
    | ok x =>
      cases e2 : g x σ with
      | none => simp only [e2] at hv; cases hv
      | some σ1 =>
        simp only [e2] at hv
        cases hv
        exact ⟨μ, st, σ, _, _, gd, er, e, fun μ1 H1 v g1 d1 r1 => hg H1 μ1 σ τ x v σ1 _ (er.m g1) r1 e2 fun τ1 e1 => k μ1 H1 g1 d1 τ1 e1⟩
    | exc c ds =>
      cases hv
      exact ⟨μ, st, σ, _, _, gd, er, e, ThrX.imp (E := fun C d μ' H' => ∀ τ', EnvR K H' μ' σ τ' → W C d τ' H') k fun C d μ' H' g z => z τ (er.m g)⟩
theorem sx_set {i : Nat} {x : Str} {e : Expr} {f : SEX} {pos pos' : Pos} (hN : X.N.Nodup) (hi : X.N[i]? = some x) (hx : Loc X.env.scope x) (he : PE X e (rdEX K ww mg W f)) (hs : swapsWith e (some (.Name x pos')) pos.line X.env = pure false := by rfl) (hf : X.fn x = true ∨ X.env.scope.names.lookup x = some .local := by first | exact .inl rfl | exact .inr rfl | assumption) :
    PS X (.Assign [.Name x pos'] e pos) (rdX K ww mg W (asgX (nmG i) f)) := (ps_set hN hi hx he hs hf).weak (rd_asgX ok_name)
theorem sx_asg {tg e : Expr} {gg : TG} {g : Tg} {f : SEX} {pos : Pos} (he : PE X e (rdEX K ww mg W f)) (hg : PG X tg gg) (ok : OkG K gg g) (hs : swapsWithSole [tg] e pos.line X.env = pure false := by rfl) (hw : swappedStores [tg] e X.env = pure none := by rfl)
    (ha : List.map (fun x => x.2) (assignEach [tg] X.env) = [assign tg X.env] := by rfl) : PS X (.Assign [tg] e pos) (rdX K ww mg W (asgX g f)) := (ps_asg he hg hs hw ha).weak (rd_asgX ok)
/-! ### expressions around one that may raise -/
def bndX {α : Type} (x : Option (DX × Sto)) (k : D → Sto → Option (α × Sto)) (e : Str → List D → α) : Option (α × Sto) := match x with
  | some (.ok d, s) => k d s
  | some (.exc c ds, s) => some (e c ds, s)
  | none => none
/-- f(..)[i] -/
def ixX (f : SEX) (g : SE) : SEX := fun σ st => bndX (f σ st) (fun x s1 => bnd (g σ s1) fun y s2 => (ixO x y s2).map fun p => (.ok p.1, p.2)) .exc
theorem ex_ix {a b : Expr} {f : SEX} {g : SE} {pos : Pos} (ha : PE X a (rdEX X.K X.w mg W f)) (hb : PE X b (rdE X.K X.w g)) (hs : PlainIx b := by exact fun _ _ => rfl) : PE X (.Subscript a b pos) (rdEX X.K X.w mg W (ixX f g)) := (pe_ix ix_seq ha hb hs).weak fun τ H Q ⟨μ, st, σ, r, st', gd, er, hv, k⟩ => by
  unfold ixX bndX at hv
  cases e : f σ st with
  | none => rw [e] at hv; cases hv
  | some p =>
    obtain ⟨r1, s1⟩ := p
    rw [e] at hv
    cases r1 with
    | exc c ds =>
      cases hv
      exact ⟨μ, st, σ, _, _, gd, er, e, k⟩
    | ok x =>
      obtain ⟨y, s2, h2, hv⟩ := bnd_eq hv
      cases e3 : ixO x y s2 with
      | none => rw [e3] at hv; cases hv
      | some q =>
        rw [e3] at hv
        cases hv
        refine ⟨μ, st, σ, _, _, gd, er, e, fun μ1 H1 vx g1 d1 r1 => ?_⟩
        refine ⟨μ1, s1, σ, y, s2, d1, er.m g1, h2, fun μ2 H2 vy g2 d2 r2 => ?_⟩
        exact ok_ix H2 μ2 s2 x y vx vy q.1 q.2 Q d2 (r1.m g2) r2 e3 fun μ3 H3 v g3 d3 r3 => k μ3 H3 v ((g1.trans g2).trans g3) d3 r3
/-- arguments, one of which may raise -/
def consX (f : SEX) (g : SA) : SAX := fun σ st => bndX (f σ st) (fun x s1 => bnd (g σ s1) fun xs s2 => some (.inl (x :: xs), s2)) fun c ds => .inr (c, ds)
def consAX (f : SE) (g : SAX) : SAX := fun σ st => bnd (f σ st) fun x s1 => match g σ s1 with
  | some (.inl xs, s2) => some (.inl (x :: xs), s2)
  | some (.inr p, s2) => some (.inr p, s2)
  | none => none
theorem ax_cons {e : Expr} {es : List Expr} {f : SEX} {g : SA} (ha : PE X e (rdEX K ww mg W f)) (hr : PA X es (rdA K ww g)) (hs : starEach (e :: es) X.env = (false, eval e X.env) :: starEach es X.env := by rfl) : PA X (e :: es) (rdAX K ww mg W (consX f g)) := (pa_cons ha hr hs).weak fun τ H Q ⟨μ, st, σ, d, st', gd, er, hv, k⟩ => by
  unfold consX bndX at hv
  cases e : f σ st with
  | none => rw [e] at hv; cases hv
  | some p =>
    obtain ⟨r1, s1⟩ := p
    rw [e] at hv
    cases r1 with
    | exc c ds =>
      cases hv
      exact ⟨μ, st, σ, _, _, gd, er, e, k⟩
    | ok x =>
      obtain ⟨xs, s2, h2, hv⟩ := bnd_eq hv
      cases hv
      refine ⟨μ, st, σ, _, s1, gd, er, e, fun μ1 H1 vx g1 d1 r1 => ?_⟩
      refine ⟨μ1, s1, σ, xs, _, d1, er.m g1, h2, fun μ2 H2 vs g2 d2 r2 => ?_⟩
      exact k μ2 H2 _ (g1.trans g2) d2 (reps_cons (r1.m g2) r2)
theorem ax_consA {e : Expr} {es : List Expr} {f : SE} {g : SAX} (ha : PE X e (rdE K ww f)) (hr : PA X es (rdAX K ww mg W g)) (hs : starEach (e :: es) X.env = (false, eval e X.env) :: starEach es X.env := by rfl) : PA X (e :: es) (rdAX K ww mg W (consAX f g)) := (pa_cons ha hr hs).weak fun τ H Q ⟨μ, st, σ, d, st', gd, er, hv, k⟩ => by
  obtain ⟨x, s1, h1, hv⟩ := bnd_eq hv
  cases e : g σ s1 with
  | none => simp only [e] at hv; cases hv
  | some p =>
    obtain ⟨r0, s2⟩ := p
    simp only [e] at hv
    refine ⟨μ, st, σ, x, s1, gd, er, h1, fun μ1 H1 vx g1 d1 r1 => ?_⟩
    cases r0 with
    | inl xs =>
      cases hv
      refine ⟨μ1, s1, σ, _, _, d1, er.m g1, e, fun μ2 H2 vs g2 d2 r2 => ?_⟩
      exact k μ2 H2 _ (g1.trans g2) d2 (reps_cons (r1.m g2) r2)
    | inr p =>
      cases hv
      exact ⟨μ1, s1, σ, _, _, d1, er.m g1, e, ThrX.m (E := fun C d _ H' => W C d τ H') k g1⟩
/-- a built-in function of such arguments -/
def appX (o : OpN) (f : SAX) : SEX := fun σ st => match f σ st with
  | some (.inl xs, s1) => (o xs s1).map fun p => (.ok p.1, p.2)
  | some (.inr p, s1) => some (.exc p.1 p.2, s1)
  | none => none
theorem rd_appX {r : List V → Hp → VK → Prop} {o : OpN} {f : SAX} (h : OkN K ww r o) : ∀ τ H Q, rdEX K ww mg W (appX o f) τ H Q → tCB r (rdAX K ww mg W f) τ H Q := fun τ H Q ⟨μ, st, σ, d, st', gd, er, hv, k⟩ => by
  unfold appX at hv
  cases e : f σ st with
  | none => rw [e] at hv; cases hv
  | some p =>
    obtain ⟨r1, s1⟩ := p
    rw [e] at hv
    cases r1 with
    | inr p =>
      cases hv
      exact ⟨μ, st, σ, _, _, gd, er, e, k⟩
    | inl xs =>
      cases e3 : o xs s1 with
      | none => simp only [e3] at hv; cases hv
      | some q =>
        simp only [e3] at hv
        cases hv
        refine ⟨μ, st, σ, _, s1, gd, er, e, fun μ1 H1 vx g1 d1 r1 => ?_⟩
        exact h H1 μ1 s1 xs vx q.1 q.2 Q d1 r1 e3 fun μ3 H3 v g3 d3 r3 => k μ3 H3 v (g1.trans g3) d3 r3
theorem ex_tuple {p pos : Pos} {e : Expr} {f : SAX} (hg : Gl X "tuple") (hm : X.mg "tuple" = none) (ha : PA X [e] (rdAX X.K X.w mg W f)) (he : starEach [e] X.env = (false, eval e X.env) :: starEach [] X.env := by rfl) : PE X (.Call (.Name "tuple" p) [e] [] pos) (rdEX X.K X.w mg W (appX tupleO f)) :=
  (pe_callTy cr_tupN hg hm (by decide +kernel) ha (by decide) (by decide) he).weak (rd_appX ok_tupleO)
theorem ex_list {p pos : Pos} {e : Expr} {f : SAX} (hg : Gl X "list") (hm : X.mg "list" = none) (ha : PA X [e] (rdAX X.K X.w mg W f)) (he : starEach [e] X.env = (false, eval e X.env) :: starEach [] X.env := by rfl) : PE X (.Call (.Name "list" p) [e] [] pos) (rdEX X.K X.w mg W (appX listO f)) :=
  (pe_callTy call_list_of hg hm (by decide +kernel) ha (by decide) (by decide) he).weak (rd_appX ok_listO)
end
end Iv

/-! Iv: errors of the program made and raised. -/
namespace Iv
open PySem L2 PySem.Spec PyProof.Rows
/-- what the written part says of the errors' base class -/
structure TurC (K : PySem.W.Frag) (mg : Str → Option Value) (Ta : Addr) : Prop where
  g : mg "TurnError" = some (.ref Ta)
  rd : PySem.W.readsIn K Ta (.type "type") = true
  ga : PySem.W.specialIn K (.ref Ta) "__getattribute__" = some (some (.builtin "type.__getattribute__"))
  at_ : PySem.W.findCls K (.ref Ta) (.type "type") "__init__" = some (.val (.builtin "ValueError.__init__"))
section
variable {X : Cx} {o e : Expr} {es : List Expr} {to te : TE} {ta : TA} {f : Str} {p p' p1 p2 pos : Pos}
/-- TurnError.__init__(self, ..) -/
theorem pe_teinit {pl : Sem Bool} {Ta : Addr} (T : TurC X.K X.mg Ta) (hg : Gl X "TurnError") (ha : PA X (e :: es) ta)
    (hc : eval (.Call (.Attribute (.Name "TurnError" p1) "__init__" p2) (e :: es) [] pos) X.env = (do
      let ov ← eval (.Name "TurnError" p1) X.env
      standAt p2.atName
      let (f, first) ← holding [ov] (getMethod ov "__init__" pl)
      callWith pos f first (backTo pos (starEach (e :: es) X.env)) (backToKw pos (keywordEach [] X.env))) := by rfl)
    (he : starEach (e :: es) X.env = (false, eval e X.env) :: starEach es X.env := by rfl) (hpl : (backTo pos (starEach es X.env)).any (·.1) = false := by rfl) :
    PE X (.Call (.Attribute (.Name "TurnError" p1) "__init__" p2) (e :: es) [] pos) (tVeI X.K ta) := by
  refine ⟨fun pins s σ H Q I h => ?_⟩
  refine PySem.W.methodCall_KW (ld_glob I hg T.g ?_ (by decide)) hc
  refine PySem.W.method_cls I.kIn T.ga (PySem.W.cls_value I.kIn T.rd T.at_ (by decide +kernel) ?_)
  show wpAny _ _ (callWith pos (Value.builtin "ValueError.__init__") [] (backTo pos (starEach (e :: es) X.env)) []) _ _ _
  refine callWith_method1 (thn (ha.run pos pins _ σ H _ (I.tok _) h) fun us s1 ⟨vs, H1, I1, r1, a, C, ws, ev, hl, T, ea, q⟩ => ?_) he hpl
  subst ev
  cases r1 with
  | @cons _ u0 _ ur ra rw' =>
    obtain rfl : u0 = Value.ref a := ra
    have hlen : ur.length ≤ sizeLine := by
      rw [← Paired.length rw', sizeLine_eq]
      omega
    exact oinit_ok T I1 ea hlen fun s' J => ⟨.non, H1, J, rfl, q⟩
end
/-! ### what __init__ leaves -/
def HI (H : Hp) (a C dx : Addr) (kv : List (Str × V)) : Hp := upd (upd H dx (exd dx kv)) a (exo a C (some dx))
theorem hi_more {H : Hp} {a C dx : Addr} {kv kv' : List (Str × V)} (h : dx ≠ a) : upd (HI H a C dx kv) dx (exd dx kv') = HI H a C dx kv' := by
  funext b
  unfold HI
  by_cases h1 : b = dx
  · subst h1; rw [upd_same, upd_ne h, upd_same]
  · rw [upd_ne h1]
    by_cases h2 : b = a
    · subst h2; rw [upd_same, upd_same]
    · rw [upd_ne h2, upd_ne h2, upd_ne h1, upd_ne h1]
theorem hi_end {H : Hp} {a C dx : Addr} {kv : List (Str × V)} (h : dx ≠ a) (ha : H a = none) : upd (del (HI (upd H a (exo a C none)) a C dx kv) a) dx (.xd kv) = upd H dx (.xd kv) := by
  funext b
  unfold HI
  by_cases h1 : b = dx
  · subst h1; rw [upd_same, upd_same]
  · rw [upd_ne h1, upd_ne h1]
    by_cases h2 : b = a
    · subst h2; rw [del_same, ha]
    · rw [del_ne h2, upd_ne h2, upd_ne h1, upd_ne h2]
/-- a value that a message may tell -/
def FmtV (v : V) : Prop := (∃ y : Str, v = .str y ∧ y.length ≤ 1000) ∨ ∃ i : Int, v = .int i ∧ i.natAbs.log2 < 1920 ∧ (Str.ofString (toString i)).length ≤ 1000
def spInit (K : PySem.W.Frag) (C : Addr) (fs : List Str) : Sp := fun vs H Q _ => ∃ a ws, vs = .ref a :: ws ∧ ws.length = fs.length ∧ H a = some (exo a C none) ∧ (∀ w ∈ ws, FmtV w) ∧
  ∀ dx, H dx = none → dx ≠ a → Q .non (HI H a C dx (fs.zip ws).reverse)
theorem fmt_of {i : Nat} {σ : L2.St} {H : Hp} {Q : VK} {v : V} (h : σ[i]? = some (some v)) (f : FmtV v) (k : ∀ y : Str, y.length ≤ 1000 → Q (.str y) H) : tFmt (tVar i) σ H Q := by
  refine ⟨v, h, ?_⟩
  rcases f with ⟨y, rfl, hl⟩ | ⟨j, rfl, h1, h2⟩
  · exact .inl ⟨y, rfl, Nat.le_trans hl (by rw [sizeLine_eq]; decide), k y hl⟩
  · exact .inr ⟨j, rfl, h1, k _ h2⟩
theorem js_len {a b : Str} {n m : Nat} (h1 : a.length ≤ n) (h2 : b.length ≤ m) (h : n + m ≤ 5000) : (a ++ b).length ≤ sizeLine ∧ (a ++ b).length ≤ n + m := by
  have e : (a ++ b).length = a.length + b.length := by simp [Str.length, Str.cps_append]
  rw [e, sizeLine_eq]
  omega
/-- the facts of an error's class -/
structure ErrC (K : PySem.W.Frag) (mg : Str → Option Value) (c : Str) (C fI : Addr) : Prop where
  o : OexC K C
  g : mg c = some (.ref C)
  iC : PySem.W.findIn K (.ref C) "__init__" = some (some (.ref fI))
  tI : PySem.W.typeIn K (.ref fI) = some (.type "function")
  te : PySem.W.exmOne K (.ref C) (.ref C) = some true
  xf : XfC K C
  no : ∀ f ∈ flds c, PySem.W.findIn K (.ref C) f = some none
/-- the body of __init__, one field: f'a{x}' or f'a{x}b' -/
theorem init1 {X : Cx} {K : PySem.W.Frag} {C : Addr} {f : Str} {m1 : Str} {vs : List V} {H : Hp} {Q : VK} {E : XK} (T : OexC K C) (no : PySem.W.findIn K (.ref C) f = some none) (h1 : m1.length ≤ 1000) (h : spInit K C [f] vs H Q E) :
    tSeq (tDrop (tVeI K (tCons (tVar 0) (tCons (fun σ H Q => tJs [tC (.str m1), tFmt (tVar 1)] Str.empty σ H fun out H1 => Q (.str out) H1) tNil)))) (tOst K f (tVar 0) (tVar 1)) { nx := fun _ H' => Q .non H', rt := Q } (start ["self", f] vs) H := by
  obtain ⟨a, ws, rfl, hl, ha, hf, k⟩ := h
  obtain ⟨y, rfl⟩ : ∃ y, ws = [y] := by
    match ws, hl with
    | [y], _ => exact ⟨y, rfl⟩
  refine ⟨_, rfl, m1, rfl, (js_len (n := 0) (m := 1000) (a := Str.empty) (Nat.le_refl 0) h1 (by decide)).1, fmt_of rfl (hf y (by simp)) fun z hz => ⟨z, rfl, (js_len (js_len (n := 0) (m := 1000) (a := Str.empty) (Nat.le_refl 0) h1 (by decide)).2 hz (by decide)).1, ?_⟩⟩
  refine ⟨a, C, _, rfl, (show 1 ≤ 1000 by decide), T, ha, ?_⟩
  refine ⟨_, rfl, _, rfl, a, C, rfl, T, no, .inl ⟨ha, fun dx hd hne => ?_⟩⟩
  exact k dx hd hne
theorem init1b {X : Cx} {K : PySem.W.Frag} {C : Addr} {f : Str} {m1 m2 : Str} {vs : List V} {H : Hp} {Q : VK} {E : XK} (T : OexC K C) (no : PySem.W.findIn K (.ref C) f = some none) (h1 : m1.length ≤ 1000) (h2 : m2.length ≤ 1000) (h : spInit K C [f] vs H Q E) :
    tSeq (tDrop (tVeI K (tCons (tVar 0) (tCons (fun σ H Q => tJs [tC (.str m1), tFmt (tVar 1), tC (.str m2)] Str.empty σ H fun out H1 => Q (.str out) H1) tNil)))) (tOst K f (tVar 0) (tVar 1)) { nx := fun _ H' => Q .non H', rt := Q } (start ["self", f] vs) H := by
  obtain ⟨a, ws, rfl, hl, ha, hf, k⟩ := h
  obtain ⟨y, rfl⟩ : ∃ y, ws = [y] := by
    match ws, hl with
    | [y], _ => exact ⟨y, rfl⟩
  have l1 := js_len (n := 0) (m := 1000) (a := Str.empty) (Nat.le_refl 0) h1 (by decide)
  refine ⟨_, rfl, m1, rfl, l1.1, fmt_of rfl (hf y (by simp)) fun z hz => ?_⟩
  have l2 := js_len l1.2 hz (by decide)
  refine ⟨z, rfl, l2.1, m2, rfl, (js_len l2.2 h2 (by decide)).1, ?_⟩
  refine ⟨a, C, _, rfl, (show 1 ≤ 1000 by decide), T, ha, ?_⟩
  refine ⟨_, rfl, _, rfl, a, C, rfl, T, no, .inl ⟨ha, fun dx hd hne => ?_⟩⟩
  exact k dx hd hne
/-- two fields: f'a{x}b{y}' -/
theorem init2 {X : Cx} {K : PySem.W.Frag} {C : Addr} {f g : Str} {m1 m2 : Str} {vs : List V} {H : Hp} {Q : VK} {E : XK} (T : OexC K C) (no : PySem.W.findIn K (.ref C) f = some none) (no2 : PySem.W.findIn K (.ref C) g = some none) (h1 : m1.length ≤ 1000) (h2 : m2.length ≤ 1000) (h : spInit K C [f, g] vs H Q E) :
    tSeq (tDrop (tVeI K (tCons (tVar 0) (tCons (fun σ H Q => tJs [tC (.str m1), tFmt (tVar 1), tC (.str m2), tFmt (tVar 2)] Str.empty σ H fun out H1 => Q (.str out) H1) tNil)))) (tSeq (tOst K f (tVar 0) (tVar 1)) (tOst K g (tVar 0) (tVar 2))) { nx := fun _ H' => Q .non H', rt := Q } (start ["self", f, g] vs) H := by
  obtain ⟨a, ws, rfl, hl, ha, hf, k⟩ := h
  obtain ⟨y, y2, rfl⟩ : ∃ y y2, ws = [y, y2] := by
    match ws, hl with
    | [y, y2], _ => exact ⟨y, y2, rfl⟩
  have l1 := js_len (n := 0) (m := 1000) (a := Str.empty) (Nat.le_refl 0) h1 (by decide)
  refine ⟨_, rfl, m1, rfl, l1.1, fmt_of rfl (hf y (by simp)) fun z hz => ?_⟩
  have l2 := js_len l1.2 hz (by decide)
  have l3 := js_len l2.2 h2 (by decide)
  refine ⟨z, rfl, l2.1, m2, rfl, l3.1, fmt_of rfl (hf y2 (by simp)) fun z2 hz2 => ⟨z2, rfl, (js_len l3.2 hz2 (by decide)).1, ?_⟩⟩
  refine ⟨a, C, _, rfl, (show 1 ≤ 1000 by decide), T, ha, ?_⟩
  refine ⟨_, rfl, _, rfl, a, C, rfl, T, no, .inl ⟨ha, fun dx hd hne => ?_⟩⟩
  refine ⟨_, rfl, _, rfl, a, C, rfl, T, no2, .inr ⟨dx, [(f, y)], upd_same, by rw [upd_ne hne, upd_same], (show 1 ≤ 900 by decide), ?_⟩⟩
  have e := hi_more (H := H) (C := C) (kv := [(f, y)]) (kv' := [(g, y2), (f, y)]) hne
  have q := k dx hd hne
  show Q .non (upd (HI H a C dx [(f, y)]) dx (exd dx [(g, y2), (f, y)]))
  rw [e]
  exact q
/-! ### the class called, in a context without a handled error -/
theorem pmk_oexN {X : Cx} {e : Expr} {es : List Expr} {ta : TA} {p pos : Pos} {CX : CXT} {x : Str} {C fI : Addr} {k : Nat} {fd : FuncData} {ps : List Str} {sp : Sp} (T : OexC X.K C) (iC : PySem.W.findIn X.K (.ref C) "__init__" = some (some (.ref fI))) (tI : PySem.W.typeIn X.K (.ref fI) = some (.type "function"))
    (F1 : FnOk X.prog X.w X.K X.mg X.base CX k fI fd ps sp) (hr : Room (k + 1) X.A) (hb : Binds X.K fd ps []) (hx : Passes CX X (fun _ _ _ => False)) (hg : Gl X x) (hm : X.mg x = some (.ref C)) (ha : PA X (e :: es) ta)
    (hdb : (x == ("__debug__" : Str)) = false := by decide) (he : starEach (e :: es) X.env = (false, eval e X.env) :: starEach es X.env := by rfl) (hpl : (backTo pos (starEach es X.env)).any (·.1) = false := by rfl) :
    L2N.PMk X (.Call (.Name x p) (e :: es) [] pos) (tMkO C sp [] ta) := by
  intro pins s σ H Q I h
  obtain ⟨nm, q, N, bs, bm, sn, sub, ab, col, dd, k0, k1, k2, k3, k5, hC, hbm⟩ := T.cls
  refine wpAny_Call_Name_kw (ld_glob I hg hm ?_ hdb)
  refine PySem.W.callWith_K (h₀ := X.base) I.ok.mod.kin T.kC (thn (ha.run pos pins s σ H _ I h) fun us s1 ⟨vs, H1, I1, r1, hz, q1⟩ => ⟨I1.kIn, ?_⟩) he hpl
  show wpAny _ _ (call (.ref C) us) _ _ _
  obtain ⟨hp, g, dr, tk, os⟩ := s1
  have hsz : hp.objs.size ≤ hp.objs.size + 1 := Nat.le_succ _
  have hn : H1 (hp.objs.size + 1) = none := I1.hok.fresh hsz
  have hq := q1 (hp.objs.size + 1) hn
  have kk : ∀ b o, hp.get? b = some o → ((hp.push (PySem.W.kdv_tup us)).push (PySem.HandSPX.excO C hp.objs.size)).get? b = some o := fun b o e => Heap.get?_push_of_some _ (Heap.get?_push_of_some _ e)
  have hget : ((hp.push (PySem.W.kdv_tup us)).push (PySem.HandSPX.excO C hp.objs.size)).get? (hp.objs.size + 1) = some (PySem.HandSPX.excO C hp.objs.size) := by heap_get
  have I2 : Inv X pins σ (upd H1 (hp.objs.size + 1) (exo (hp.objs.size + 1) C none)) ⟨(hp.push (PySem.W.kdv_tup us)).push (PySem.HandSPX.excO C hp.objs.size), g, dr, tk, os⟩ :=
    I1.laid (t' := tk) (a := hp.objs.size + 1) (o := exo (hp.objs.size + 1) C none) (h' := (hp.push (PySem.W.kdv_tup us)).push (PySem.HandSPX.excO C hp.objs.size)) kk hsz (exo_ok hget)
  have r2 : Vals (V.ref (hp.objs.size + 1) :: (vs ++ [])) (Value.ref (hp.objs.size + 1) :: us) := .cons rfl (by rw [List.append_nil]; exact r1)
  have hl : (Value.ref (hp.objs.size + 1) :: us ++ []).length = ps.length := by
    have e := r2.length
    rw [F1.len _ _ _ _ hq] at e
    rw [List.append_nil]
    exact e.symm
  have hus : us.length ≤ sizeLine := by
    rw [← Paired.length r1, sizeLine_eq]
    omega
  have b2 := hb _ (Value.ref (hp.objs.size + 1) :: us) I2.kIn hl
  rw [List.append_nil] at b2
  refine wpAny_call (PySem.HandSPX.call_own F.excBase_ValueError (fun Y => PySem.HandSPX.refsVE_contains Y bm hbm) (I1.kIn _ _ hC) (PySem.W.looks_findIn I1.kIn iC) (fun self => PySem.W.bind_fn I1.kIn self tI) hus
    (codeAny_mono (F1.run _ X.stack _ _ ⟨Value.ref (hp.objs.size + 1) :: us, []⟩ (Value.ref (hp.objs.size + 1) :: us) _ _ (fun _ _ _ => False) (hr.make C us []) (I2.env0.make C us []) b2 r2 hq) fun r s' hq' => ?_))
  cases r with
  | error er => exact hx pins σ _ _ er s' I2 hq'
  | ok fl =>
    cases fl with
    | ret u =>
      obtain ⟨v, H2, os2, bare2, un2, hok2, rv, ev, d, fs, ea, ed, hd1, q2⟩ := hq'
      subst ev
      obtain ⟨h2, g2, d2, t2, os'⟩ := s'
      obtain ⟨t0, G, J, kG, ge, hoe, na⟩ := mk_end0 (d2 := d2) (t2 := t2) I1 hsz kk un2 hok2 os2 bare2 ea ed hd1
      refine ⟨rv, ⟨hp.objs.size + 1, _, _, ⟨G, g2, d2, t2, os'⟩, _, .ref C, some d, rfl, J, kG, ge, hoe, ⟨rfl, rfl, fun vs hv => ?_⟩, rfl, rfl, na, rfl, bare2, raises_own T.exC T.tyC, q2⟩⟩
      cases hv
      rfl
    | next => exact False.elim hq'
    | brk => exact False.elim hq'
    | cont => exact False.elim hq'
/-! ### raise -/
def fmtD : D → Bool
  | .str y => decide (y.length ≤ 1000)
  | .int i => decide (i.natAbs.log2 < 1920) && decide ((Str.ofString (toString i)).length ≤ 1000)
  | _ => false
theorem fmtV_of {K : PySem.W.Frag} {H : Hp} {μ : List Addr} : ∀ {d : D} {v : V}, Rep K H μ d v → fmtD d = true → FmtV v
  | .str y, v, r, h => by
    simp only [Rep] at r
    subst r
    exact .inl ⟨y, rfl, of_decide_eq_true h⟩
  | .int i, v, r, h => by
    simp only [Rep] at r
    subst r
    have h' := Bool.and_eq_true_iff.mp h
    exact .inr ⟨i, rfl, of_decide_eq_true h'.1, of_decide_eq_true h'.2⟩
  | .non, _, _, h => by cases h
  | .bl _, _, _, h => by cases h
  | .tup _, _, _, h => by cases h
  | .loc _, _, _, h => by cases h
theorem fmtVs_of {K : PySem.W.Frag} {H : Hp} {μ : List Addr} : ∀ {ds : List D} {vs : List V}, Reps K H μ ds vs → ds.all fmtD = true → ∀ v ∈ vs, FmtV v
  | [], vs, r, _, v, hv => by simp only [Reps] at r; subst r; cases hv
  | d :: ds, vs, r, h, v, hv => by
    simp only [Reps] at r
    obtain ⟨u, us, rfl, r1, r2⟩ := r
    rw [List.all_cons, Bool.and_eq_true] at h
    rcases List.mem_cons.mp hv with e | e
    · rw [e]; exact fmtV_of r1 h.1
    · exact fmtVs_of r2 h.2 v e
def raiseX (rz : Bool) (c : Str) (g : SA) : SX := fun σ st => bnd (g σ st) fun ds s1 => if rz = true ∧ ds.length = (flds c).length ∧ ds.all fmtD = true then some (.exc σ c ds, s1) else none
theorem xf1 {K : PySem.W.Frag} {H : Hp} {μ : List Addr} {c f : Str} (e : flds c = [f]) {ds : List D} {vs : List V} (r : Reps K H μ ds vs) (hl : ds.length = (flds c).length) : XfR K H μ c ds ((flds c).zip vs).reverse := by
  rw [e] at hl ⊢
  match ds, hl with
  | [d], _ =>
    obtain ⟨v, rfl, rv⟩ := reps1 r
    intro j f' d' h1 h2
    rw [e] at h1
    match j, h1, h2 with
    | 0, h1, h2 =>
      cases h1; cases h2
      exact ⟨v, by simp [List.lookup], rv⟩
theorem xf2 {K : PySem.W.Frag} {H : Hp} {μ : List Addr} {c f g : Str} (e : flds c = [f, g]) (hne : (f == g) = false) {ds : List D} {vs : List V} (r : Reps K H μ ds vs) (hl : ds.length = (flds c).length) : XfR K H μ c ds ((flds c).zip vs).reverse := by
  rw [e] at hl ⊢
  match ds, hl with
  | [d, d2], _ =>
    obtain ⟨v, w, rfl, rv, rw2⟩ := reps2 r
    intro j f' d' h1 h2
    rw [e] at h1
    match j, h1, h2 with
    | 0, h1, h2 =>
      cases h1; cases h2
      exact ⟨v, by simp [List.lookup, hne], rv⟩
    | 1, h1, h2 =>
      cases h1; cases h2
      exact ⟨w, by simp [List.lookup], rw2⟩
/-- an error of the program, ready to be made -/
structure MkC (P : Program) (w : World) (K : PySem.W.Frag) (mg : Str → Option Value) (base : Heap) (c : Str) : Prop where
  ex : ∃ C fI fd, ErrC K mg c C fI ∧ FnOk P w K mg base CX0 1 fI fd ("self" :: flds c) (spInit K C (flds c)) ∧ Binds K fd ("self" :: flds c) []
  xf : ∀ (H : Hp) (μ : List Addr) (ds : List D) (vs : List V), Reps K H μ ds vs → ds.length = (flds c).length → XfR K H μ c ds ((flds c).zip vs).reverse
theorem sx_raise {X : Cx} {W : WX} {c : Str} {e : Expr} {es : List Expr} {g : SA} {rz : Bool} {k : Nat} {p pos pos2 : Pos} (hc : X.calm = true) (M : MkC X.prog X.w X.K X.mg X.base c) (tk : L2N.Takes X W) (hr : Room k X.A) (hk : rz = true → 2 ≤ k) (hg : Gl X c) (ha : PA X (e :: es) (rdA X.K X.w g)) (hf : (flds c).length ≤ 1000 := by decide)
    (hdb : (c == ("__debug__" : Str)) = false := by decide) (he : starEach (e :: es) X.env = (false, eval e X.env) :: starEach es X.env := by rfl) (hpl : (backTo pos (starEach es X.env)).any (·.1) = false := by rfl) :
    PS X (.Raise (some (.Call (.Name c p) (e :: es) [] pos)) none pos2) (rdX X.K X.w X.mg W (raiseX rz c g)) := by
  obtain ⟨C, fI, fd, EC, F, hb⟩ := M.ex
  by_cases hz : rz = true
  · have hr2 : Room 2 X.A := hr.mono (hk hz)
    refine (L2N.ps_raise hc tk (pmk_oexN EC.o EC.iC EC.tI F hr2 hb pass0 hg EC.g ha hdb he hpl)).weak fun Dn τ H ⟨μ, st, σ, r, st', gd, er, hv, kk⟩ => ?_
    obtain ⟨ds, s1, h1, hv⟩ := bnd_eq hv
    split at hv
    · rename_i hcond
      cases hv
      refine ⟨μ, st, σ, ds, _, gd, er, h1, fun μ1 H1 vs g1 d1 r1 => ⟨by rw [← r1.len, hcond.2.1]; exact hf, fun a ha0 => ?_⟩⟩
      have hlen : vs.length = (flds c).length := by rw [← r1.len]; exact hcond.2.1
      refine ⟨a, vs ++ [], rfl, by rw [List.append_nil]; exact hlen, upd_same, fun w hw => fmtVs_of r1 hcond.2.2 w (by rw [List.append_nil] at hw; exact hw), fun dx hd hne => ?_⟩
      rw [List.append_nil]
      have hd1 : H1 dx = none := by rw [upd_ne hne] at hd; exact hd
      refine ⟨rfl, dx, ((flds c).zip vs).reverse, by unfold HI; exact upd_same, by unfold HI; rw [upd_ne hne, upd_same], hd1, ?_⟩
      rw [hi_end hne ha0]
      have gr : Gr H1 μ1 (upd H1 dx (.xd ((flds c).zip vs).reverse)) μ1 := gr_any hd1
      have gd2 := d1.same (same_upd (o := .xd ((flds c).zip vs).reverse) hd1)
      exact kk μ1 _ C dx _ (g1.trans gr) gd2 EC.g upd_same (M.xf _ _ _ _ (r1.m gr) hcond.2.1) τ (er.m (g1.trans gr))
    · cases hv
  · refine ps_never.weak fun Dn τ H ⟨μ, st, σ, r, st', gd, er, hv, kk⟩ => ?_
    obtain ⟨ds, s1, h1, hv⟩ := bnd_eq hv
    rw [if_neg (fun z => hz z.1)] at hv
    cases hv
end Iv

/-! Iv: defs that raise, their calls, try. -/
namespace Iv
open PySem L2 PySem.Spec PyProof.Rows
/-! ### defs -/
def runX (ns np : Nat) (body : SX) : Fy := fun ds st => if ds.length = np then (match body (ds.map some ++ List.replicate (ns - np) none) st with
  | some (.ok (.nx _), s) => some (.ok .non, s)
  | some (.ok (.ret d), s) => some (.ok d, s)
  | some (.exc _ c es, s) => some (.exc c es, s)
  | _ => none) else none
theorem runX_np {ns np : Nat} {body : SX} : ∀ ds st d st', runX ns np body ds st = some (d, st') → ds.length = np := fun ds st d st' h => by
  unfold runX at h
  split at h
  · assumption
  · cases h
def spX (K : PySem.W.Frag) (ww : World) (mg : Str → Option Value) (np : Nat) (φ : Fy) : Sp := fun vs H Q E => vs.length = np ∧ ∃ μ st ds r st', Gd K ww H μ st ∧ Reps K H μ ds vs ∧ φ ds st = some (r, st') ∧ FinE K ww mg H μ st' Q E r
section
variable {P : Program} {w : World} {K : PySem.W.Frag} {mg : Str → Option Value} {base : Heap} {n k : Nat} {f : Addr} {fd : FuncData} {ps : List Str}
theorem Fun_okXN {x qual : Str} {st : Stmt} {N : List Str} {sp : Sp} (F : Fun K x qual st f fd) (S : FnScope N ps (defScope st)) (len : ∀ vs H Q E, sp vs H Q E → vs.length = ps.length)
    (hbody : ∀ (cdv : Value) (A : Around) (outer : List Env) (s : Shared) (H : Hp) (vs : List V) (Q : VK) (E : XK), Room k (A.deeper (envOfC qual (defScope st) s.heap.objs.size f cdv)) → sp vs H Q E →
      ∃ t, PSs (cxOf (L2N.CX P w) P w K mg base N qual (defScope st) f cdv A outer s H E) (defBody st) t ∧ t { nx := fun _ H' => Q .non H', rt := Q } (start N vs) H) : FnOk P w K mg base (L2N.CX P w) (k + 1) f fd ps sp := by
  obtain ⟨oc, od, kV, doc, pm, an, cdv, ct, osl, rfl, lk, hcd⟩ := F.ex
  exact fn_of lk hcd S len fun A outer s H vs Q E hr hsp => hbody cdv A outer s H vs Q E hr hsp
theorem fx_zero {φ : Fy} {np : Nat} (h : ∀ ds st, φ ds st = none) : FnOk P w K mg base (L2N.CX P w) 0 f fd ps (spX K w mg np φ) := by
  have no : ∀ vs H Q E, ¬ spX K w mg np φ vs H Q E := fun vs H Q E ⟨_, _, st, ds, _, _, _, _, e, _⟩ => by rw [h] at e; cases e
  exact ⟨fun vs H Q E h => absurd h (no vs H Q E), fun A outer s H args us vs Q E _ _ _ _ h => absurd h (no vs H Q E)⟩
theorem fx_ok {x qual : Str} {st : Stmt} {N : List Str} {body : SX} (F : Fun K x qual st f fd) (S : FnScope N ps (defScope st)) (hns : ps.length ≤ N.length)
    (hb : ∀ (cdv : Value) (A : Around) (outer : List Env) (s : Shared) (H : Hp) (E : XK), Room k (A.deeper (PyProof.Rows.envOfC qual (defScope st) s.heap.objs.size f cdv)) →
      PSs (cxOf (L2N.CX P w) P w K mg base N qual (defScope st) f cdv A outer s H E) (defBody st) (rdX K w mg (fun cls d _ H => E cls d H) body)) :
    FnOk P w K mg base (L2N.CX P w) (k + 1) f fd ps (spX K w mg ps.length (runX N.length ps.length body)) := by
  refine Fun_okXN F S (fun vs H Q E h => h.1) (fun cdv A outer s H vs Q E hr h => ⟨_, hb cdv A outer s H E hr, ?_⟩)
  obtain ⟨hlen, μ, st, ds, d, st', gd, r, hv, q⟩ := h
  unfold runX at hv
  split at hv
  · rename_i hl
    unfold L2.start
    rw [hlen]
    have er := envr_start r (N.length - ps.length)
    cases e : body (ds.map some ++ List.replicate (N.length - ps.length) none) st with
    | none => rw [e] at hv; cases hv
    | some p =>
      obtain ⟨r1, s1⟩ := p
      rw [e] at hv
      refine ⟨μ, st, _, r1, s1, gd, er, e, ?_⟩
      cases r1 with
      | exc σ1 c es =>
        cases hv
        exact fun μ' H' C dd fs g2 gd a b c _ _ => q μ' H' C dd fs g2 gd a b c
      | ok r1 =>
        refine fun μ1 H1 g1 d1 => ?_
        cases r1 with
        | nx σ1 =>
          cases hv
          exact fun τ1 _ => q μ1 H1 .non g1 d1 (by simp only [Rep])
        | ret x =>
          cases hv
          exact fun v rv => q μ1 H1 v g1 d1 rv
        | brk σ1 => cases hv
        | cnt σ1 => cases hv
  · cases hv
structure CalX (P : Program) (w : World) (K : PySem.W.Frag) (mg : Str → Option Value) (base : Heap) (k : Nat) (x : Str) (ps : List Str) (φ : Fy) : Prop where
  ex : ∃ f fd, FnOk P w K mg base (L2N.CX P w) k f fd ps (spX K w mg ps.length φ) ∧ mg x = some (.ref f) ∧ PySem.W.keepIn K (.ref f) = true ∧ Binds K fd ps []
  np : ∀ ds st d st', φ ds st = some (d, st') → ds.length = ps.length
theorem calX_ok {x : Str} {st : Stmt} {N : List Str} {body : SX} (Df : Def K mg x st ps) (S : FnScope N ps (defScope st)) (hns : ps.length ≤ N.length)
    (hb : ∀ (f : Addr) (cdv : Value) (A : Around) (outer : List Env) (s : Shared) (H : Hp) (E : XK), Room k (A.deeper (PyProof.Rows.envOfC x (defScope st) s.heap.objs.size f cdv)) →
      PSs (cxOf (L2N.CX P w) P w K mg base N x (defScope st) f cdv A outer s H E) (defBody st) (rdX K w mg (fun cls d _ H => E cls d H) body)) :
    CalX P w K mg base (k + 1) x ps (runX N.length ps.length body) := by
  obtain ⟨f, fd, F, hm, hbd⟩ := Df.ex
  exact ⟨⟨f, fd, fx_ok F S hns fun cdv A outer s H E hr => hb f cdv A outer s H E hr, hm, F.kp, hbd⟩, runX_np⟩
theorem calX_zero {x : Str} {st : Stmt} (Df : Def K mg x st ps) : CalX P w K mg base 0 x ps (fun _ _ => none) := by
  obtain ⟨f, fd, F, hm, hbd⟩ := Df.ex
  exact ⟨⟨f, fd, fx_zero fun _ _ => rfl, hm, F.kp, hbd⟩, fun _ _ _ _ h => by cases h⟩
end
/-! ### calls -/
def callX (φ : Fy) (g : SA) : SEX := fun σ st => bnd (g σ st) fun ds s1 => φ ds s1
theorem ex_call {X : Cx} {W : WX} {n : Nat} {x : Str} {ps : List Str} {φ : Fy} {p pos : Pos} {e : Expr} {es : List Expr} {g : SA} (C : CalX X.prog X.w X.K X.mg X.base n x ps φ) (tk : L2N.Takes X W) (hr : Room n X.A) (hg : Gl X x)
    (ha : PA X (e :: es) (rdA X.K X.w g)) (hdb : (x == ("__debug__" : Str)) = false := by decide) (he : starEach (e :: es) X.env = (false, eval e X.env) :: starEach es X.env := by rfl) (hpl : (backTo pos (starEach es X.env)).any (·.1) = false := by rfl) :
    PE X (.Call (.Name x p) (e :: es) [] pos) (rdEX X.K X.w X.mg W (callX φ g)) := by
  obtain ⟨f, fd, F, hm, hk, hb⟩ := C.ex
  refine (pe_callS F hr hg hm hk hb (fun σ => L2N.passAt tk σ) ha hdb he hpl).weak fun τ H Q ⟨μ, st, σ, d, st', gd, er, hv, kk⟩ => ?_
  obtain ⟨ds, s1, h1, hv⟩ := bnd_eq hv
  refine ⟨μ, st, σ, ds, s1, gd, er, h1, fun μ1 H1 vs g1 d1 r1 => ?_⟩
  refine ⟨by rw [← r1.len]; exact C.np _ _ _ _ hv, μ1, s1, ds, d, st', d1, r1, hv, ?_⟩
  cases d with
  | ok d => exact fun μ2 H2 v g2 d2 r2 => kk μ2 H2 v (g1.trans g2) d2 r2
  | exc c es => exact ThrX.m (E := fun C d _ H' => W C d τ H') kk g1
/-- a call of a raising def with arguments one of which may raise, and of one that raises nothing -/
def callAX (φ : Fx) (g : SAX) : SEX := fun σ st => match g σ st with
  | some (.inl ds, s1) => (φ ds s1).map fun p => (.ok p.1, p.2)
  | some (.inr p, s1) => some (.exc p.1 p.2, s1)
  | none => none
theorem ex_callA {X : Cx} {W : WX} {mg : Str → Option Value} {n : Nat} {x : Str} {ps : List Str} {φ : Fx} {p pos : Pos} {e : Expr} {es : List Expr} {g : SAX} (C : Cal X.prog X.w X.K X.mg X.base n x ps φ) (hr : Room n X.A) (hg : Gl X x)
    (ha : PA X (e :: es) (rdAX X.K X.w mg W g)) (hdb : (x == ("__debug__" : Str)) = false := by decide) (he : starEach (e :: es) X.env = (false, eval e X.env) :: starEach es X.env := by rfl) (hpl : (backTo pos (starEach es X.env)).any (·.1) = false := by rfl) :
    PE X (.Call (.Name x p) (e :: es) [] pos) (rdEX X.K X.w mg W (callAX φ g)) := by
  obtain ⟨f, fd, F, hm, hk, hb⟩ := C.ex
  refine (pe_call F hr hg hm hk hb .nil pass0 ha hdb he hpl).weak fun τ H Q ⟨μ, st, σ, d, st', gd, er, hv, kk⟩ => ?_
  unfold callAX at hv
  cases e1 : g σ st with
  | none => rw [e1] at hv; cases hv
  | some q =>
    obtain ⟨r1, s1⟩ := q
    rw [e1] at hv
    cases r1 with
    | inr p =>
      cases hv
      exact ⟨μ, st, σ, _, _, gd, er, e1, kk⟩
    | inl ds =>
      cases e3 : φ ds s1 with
      | none => simp only [e3] at hv; cases hv
      | some q =>
        simp only [e3] at hv
        cases hv
        refine ⟨μ, st, σ, _, s1, gd, er, e1, fun μ1 H1 vs g1 d1 r1 => ?_⟩
        show spF X.K X.w ps.length φ (vs ++ []) H1 Q E0
        rw [List.append_nil]
        exact ⟨by rw [← r1.len]; exact C.np _ _ q.1 q.2 e3, μ1, s1, ds, q.1, q.2, d1, r1, e3, fun μ2 H2 v g2 d2 r2 => kk μ2 H2 v (g1.trans g2) d2 r2⟩
/-! ### except suites -/
/-- the slot of the clause's name is empty behind the suite -/
def clrR (i : Nat) : R → R
  | .nx σ => .nx (σ.set i none)
  | .brk σ => .brk (σ.set i none)
  | .cnt σ => .cnt (σ.set i none)
  | .ret d => .ret d
def tryS (b : SX) (c : Str) (i : Nat) (su : List D → SS) : SS := fun σ st => match b σ st with
  | some (.ok r, s) => some (r, s)
  | some (.exc σ' c' ds, s) => if c' = c ∧ i < σ'.length then (su ds (σ'.set i none) s).map fun p => (clrR i p.1, p.2) else none
  | none => none
/-- the suite's reading: the error (at a) carries ds -/
def rdU (K : PySem.W.Frag) (ww : World) (mg : Str → Option Value) (c : Str) (i : Nat) (su : List D → SS) (a : Addr) (cls : Value) (d : Option Addr) : TS := fun Dn τ H =>
  ∃ μ st σ r st' ds C dd fs, Gd K ww H μ st ∧ EnvR K H μ σ τ ∧ τ[i]? = some (some (.ref a)) ∧ cls = .ref C ∧ mg c = some (.ref C) ∧ d = some dd ∧ H dd = some (.xd fs) ∧ XfR K H μ c ds fs ∧ su ds σ st = some (r, st') ∧ Fin K ww H μ st' Dn r
def rdUE (K : PySem.W.Frag) (ww : World) (mg : Str → Option Value) (c : Str) (i : Nat) (su : List D → SE) (a : Addr) (cls : Value) (d : Option Addr) : TE := fun τ H Q =>
  ∃ μ st σ x st' ds C dd fs, Gd K ww H μ st ∧ EnvR K H μ σ τ ∧ τ[i]? = some (some (.ref a)) ∧ cls = .ref C ∧ mg c = some (.ref C) ∧ d = some dd ∧ H dd = some (.xd fs) ∧ XfR K H μ c ds fs ∧ su ds σ st = some (x, st') ∧ ∀ μ' H' v, Gr H μ H' μ' → Gd K ww H' μ' st' → Rep K H' μ' x v → Q v H'
def rdUA (K : PySem.W.Frag) (ww : World) (mg : Str → Option Value) (c : Str) (i : Nat) (su : List D → SA) (a : Addr) (cls : Value) (d : Option Addr) : TA := fun τ H Q =>
  ∃ μ st σ xs st' ds C dd fs, Gd K ww H μ st ∧ EnvR K H μ σ τ ∧ τ[i]? = some (some (.ref a)) ∧ cls = .ref C ∧ mg c = some (.ref C) ∧ d = some dd ∧ H dd = some (.xd fs) ∧ XfR K H μ c ds fs ∧ su ds σ st = some (xs, st') ∧ ∀ μ' H' vs, Gr H μ H' μ' → Gd K ww H' μ' st' → Reps K H' μ' xs vs → Q vs H'
section
variable {X : Cx} {K : PySem.W.Frag} {ww : World} {mg : Str → Option Value} {c : Str} {i : Nat} {a : Addr} {cls : Value} {d : Option Addr}
theorem su_plain {b : List Stmt} {f : SS} (h : PSs X b (rdS K ww f)) : PSs X b (rdU K ww mg c i (fun _ => f) a cls d) := h.weak fun Dn τ H ⟨μ, st, σ, r, st', ds, C, dd, fs, gd, er, _, _, _, _, _, _, hv, k⟩ => ⟨μ, st, σ, r, st', gd, er, hv, k⟩
theorem su_ret {e : Expr} {f : List D → SE} {pos : Pos} (h : PE X e (rdUE K ww mg c i f a cls d)) : PSs X [.Return (some e) pos] (rdU K ww mg c i (fun ds => retS (f ds)) a cls d) := (pss_one (ps_ret h)).weak fun Dn τ H ⟨μ, st, σ, r, st', ds, C, dd, fs, gd, er, h1, h2, h3, h4, h5, h6, hv, k⟩ => by
  obtain ⟨x, s1, e1, hv⟩ := bnd_eq hv
  cases hv
  exact ⟨μ, st, σ, x, _, ds, C, dd, fs, gd, er, h1, h2, h3, h4, h5, h6, e1, fun μ1 H1 v g1 d1 r1 => k μ1 H1 g1 d1 v r1⟩
theorem ue_plain {e : Expr} {f : SE} (h : PE X e (rdE K ww f)) : PE X e (rdUE K ww mg c i (fun _ => f) a cls d) := h.weak fun τ H Q ⟨μ, st, σ, r, st', ds, C, dd, fs, gd, er, _, _, _, _, _, _, hv, k⟩ => ⟨μ, st, σ, r, st', gd, er, hv, k⟩
theorem ua_plain {e : List Expr} {f : SA} (h : PA X e (rdA K ww f)) : PA X e (rdUA K ww mg c i (fun _ => f) a cls d) := h.weak fun τ H Q ⟨μ, st, σ, r, st', ds, C, dd, fs, gd, er, _, _, _, _, _, _, hv, k⟩ => ⟨μ, st, σ, r, st', gd, er, hv, k⟩
theorem ua_cons {e : Expr} {es : List Expr} {f : List D → SE} {g : List D → SA} (ha : PE X e (rdUE K ww mg c i f a cls d)) (hr : PA X es (rdUA K ww mg c i g a cls d)) (hs : starEach (e :: es) X.env = (false, eval e X.env) :: starEach es X.env := by rfl) :
    PA X (e :: es) (rdUA K ww mg c i (fun ds => consF (f ds) (g ds)) a cls d) := (pa_cons ha hr hs).weak fun τ H Q ⟨μ, st, σ, r, st', ds, C, dd, fs, gd, er, h1, h2, h3, h4, h5, h6, hv, k⟩ => by
  obtain ⟨x, s1, e1, hv⟩ := bnd_eq hv
  obtain ⟨xs, s2, e2, hv⟩ := bnd_eq hv
  cases hv
  refine ⟨μ, st, σ, x, s1, ds, C, dd, fs, gd, er, h1, h2, h3, h4, h5, h6, e1, fun μ1 H1 vx g1 d1 r1 => ?_⟩
  refine ⟨μ1, s1, σ, xs, _, ds, C, dd, fs, d1, er.m g1, h1, h2, h3, h4, g1.1.2.2 _ _ h5, h6.m g1, e2, fun μ2 H2 vs g2 d2 r2 => ?_⟩
  exact k μ2 H2 _ (g1.trans g2) d2 (reps_cons (r1.m g2) r2)
theorem ue_bin {t : TE} {e : Expr} {r : R2} {o : Op2} {f g : List D → SE} {ta tb : TE} (h : Ok2 K ww r o) (hp : PE X e (tOp r ta tb)) (ea : ta = rdUE K ww mg c i f a cls d) (eb : tb = rdUE K ww mg c i g a cls d) :
    PE X e (rdUE K ww mg c i (fun ds => binF o (f ds) (g ds)) a cls d) := hp.weak fun τ H Q ⟨μ, st, σ, x0, st', ds, C, dd, fs, gd, er, h1, h2, h3, h4, h5, h6, hv, k⟩ => by
  subst ea eb
  obtain ⟨x, s1, e1, hv⟩ := bnd_eq hv
  obtain ⟨y, s2, e2, hv⟩ := bnd_eq hv
  refine ⟨μ, st, σ, x, s1, ds, C, dd, fs, gd, er, h1, h2, h3, h4, h5, h6, e1, fun μ1 H1 vx g1 d1 r1 => ?_⟩
  refine ⟨μ1, s1, σ, y, s2, ds, C, dd, fs, d1, er.m g1, h1, h2, h3, h4, g1.1.2.2 _ _ h5, h6.m g1, e2, fun μ2 H2 vy g2 d2 r2 => ?_⟩
  exact h H2 μ2 s2 x y vx vy x0 st' Q d2 (r1.m g2) r2 hv fun μ3 H3 v g3 d3 r3 => k μ3 H3 v ((g1.trans g2).trans g3) d3 r3
theorem ue_cmp {x y : Expr} {op : CmpOp} {o : Op2} {f g : List D → SE} {pos : Pos} (hc : Cmp X op o) (ha : PE X x (rdUE X.K X.w mg c i f a cls d)) (hb : PE X y (rdUE X.K X.w mg c i g a cls d)) (hm : behindInMarks op y = false := by rfl) :
    PE X (.Compare x [op] [y] pos) (rdUE X.K X.w mg c i (fun ds => binF o (f ds) (g ds)) a cls d) := by
  obtain ⟨r, ho, hk⟩ := hc.ex
  exact ue_bin (t := rdUE X.K X.w mg c i f a cls d) hk (pe_cmpR ho ha hb hm) rfl rfl
theorem ue_tup {es : List Expr} {x1} {pos : Pos} {f : List D → SA} (h : PA X es (rdUA K ww mg c i f a cls d)) : PE X (.Tuple es x1 pos) (rdUE K ww mg c i (fun ds => tupF (f ds)) a cls d) := (pe_tupN h).weak fun τ H Q ⟨μ, st, σ, x0, st', ds, C, dd, fs, gd, er, h1, h2, h3, h4, h5, h6, hv, k⟩ => by
  obtain ⟨x, s1, e1, hv⟩ := bnd_eq hv
  split at hv
  · rename_i hl
    cases hv
    refine ⟨μ, st, σ, x, _, ds, C, dd, fs, gd, er, h1, h2, h3, h4, h5, h6, e1, fun μ1 H1 vs g1 d1 r1 => ⟨lim_ok (by rw [← r1.len]; exact hl), ?_⟩⟩
    exact new_tup d1 r1 fun μ3 H3 v g3 d3 r3 => k μ3 H3 v (g1.trans g3) d3 r3
  · cases hv
theorem ue_lst {es : List Expr} {pos : Pos} {f : List D → SA} (h : PA X es (rdUA K ww mg c i f a cls d)) : PE X (.List es pos) (rdUE K ww mg c i (fun ds => lstF (f ds)) a cls d) := (pe_lst h).weak fun τ H Q ⟨μ, st, σ, x0, st', ds, C, dd, fs, gd, er, h1, h2, h3, h4, h5, h6, hv, k⟩ => by
  obtain ⟨x, s1, e1, hv⟩ := bnd_eq hv
  split at hv
  · rename_i hl
    cases hv
    refine ⟨μ, st, σ, x, _, ds, C, dd, fs, gd, er, h1, h2, h3, h4, h5, h6, e1, fun μ1 H1 vs g1 d1 r1 => ⟨lim_ok (by rw [← r1.len]; exact hl), ?_⟩⟩
    exact new_lst d1 r1 fun μ3 H3 v g3 d3 r3 => k μ3 H3 v (g1.trans g3) d3 r3
  · cases hv
/-- e.f, e the error -/
def fldF (j : Nat) (ds : List D) : SE := fun _ st => (ds[j]?).map fun x => (x, st)
theorem ue_fld {oe : Obj} {pn : List (Addr × Obj)} {e : Expr} {f : Str} {j : Nat} {pos : Pos} {P : Program} {w : World} {base : Heap} (M : MkC P w X.K mg base c) (hj : (flds c)[j]? = some f) (hz : Zc cls d oe) (hf : ∃ vs, oe.data = .fields vs)
    (he : PE (X.suite a ((a, oe) :: pn)) e (tVar i)) (hb : attributeBase e f X.env (eval e X.env) = eval e X.env := by rfl) :
    PE (X.suite a ((a, oe) :: pn)) (.Attribute e f pos) (rdUE X.K X.w mg c i (fldF j) a cls d) := by
  obtain ⟨C, fI, fd, EC, _, _⟩ := M.ex
  refine (pe_xf (C := C) EC.xf (EC.no f (List.mem_of_getElem? hj)) hz hf he hb).weak fun τ H Q ⟨μ, st, σ, x0, st', ds, C', dd, fs, gd, er, h1, h2, h3, h4, h5, h6, hv, k⟩ => ?_
  have eC := EC.g
  rw [h3] at eC
  cases eC
  unfold fldF at hv
  cases e1 : ds[j]? with
  | none => rw [e1] at hv; cases hv
  | some x =>
    rw [e1] at hv
    cases hv
    obtain ⟨v, l, r⟩ := h6 j f _ hj e1
    exact ⟨_, h1, rfl, h2, dd, fs, v, h4, h5, l, k μ H v (Gr.refl H μ) gd r⟩
end
theorem takesN {X : Cx} : L2N.Takes X (fun _ _ _ _ => False) := fun _ _ x => by
  obtain ⟨_, _, _, _, _, _, _, _, _, _, _, _, _, _, _, _, z⟩ := x
  exact z.elim
theorem envr_clr {K : PySem.W.Frag} {H : Hp} {μ : List Addr} {σ : Sl} {τ : L2.St} (e : EnvR K H μ σ τ) (i : Nat) (v : Option V) : EnvR K H μ (σ.set i none) (τ.set i v) := by
  refine ⟨by rw [List.length_set, List.length_set]; exact e.1, fun j x h => ?_⟩
  by_cases hj : i = j
  · subst hj
    by_cases hl : i < σ.length
    · rw [List.getElem?_set_self hl] at h
      cases h
    · rw [List.getElem?_eq_none (by rw [List.length_set]; omega)] at h
      cases h
  · rw [List.getElem?_set_ne hj] at h
    obtain ⟨u, h1, h2⟩ := e.2 j x h
    exact ⟨u, by rw [List.getElem?_set_ne hj]; exact h1, h2⟩
section
variable {X : Cx} {x n : Str} {i : Nat} {body suite : List Stmt} {b₀ : Stmt} {np pos pos' : Pos} {b : SX} {su : List D → SS}
theorem ss_try {P : Program} {w : World} {base : Heap} (M : MkC P w X.K X.mg base x) (hs : X.stack = X.env :: X.outer) (hf : X.env.frame = some X.env.locals) (hN : X.N.Nodup) (hi : X.N[i]? = some n) (hln : X.env.kindOf n = some .local) (hc : Gl X x) (hdb : (x == ("__debug__" : Str)) = false)
    (hb : ∀ (W : WX) (pn : List (Addr × Obj)) (xe : Value → Shared → Prop), L2N.Takes (X.tr pn xe) W → PassesOwn (model X.prog X.w) X.A X.env xe → PSs (X.tr pn xe) body (rdX X.K X.w X.mg W b))
    (hsu : ∀ (a : Addr) (oe : Obj) (cls : Value) (d : Option Addr) (pn : List (Addr × Obj)), L2N.Zn cls d oe → (∃ vs, oe.data = .fields vs) → PSs (X.suite a ((a, oe) :: pn)) (b₀ :: suite) (rdU X.K X.w X.mg x i su a cls d)) :
    PS X (.Try body [.ExceptHandler (some (.Name x np)) (some n) (b₀ :: suite) pos'] [] [] pos) (rdS X.K X.w (tryS b x i su)) := by
  obtain ⟨C, fI, fd, EC, _, _⟩ := M.ex
  refine (L2N.ps_try_as (c := .ref C) (Wout := fun _ _ _ _ => False) hs hf hN hi hln ⟨hc, hdb, .inl EC.g⟩ takesN hb hsu).weak fun Dn τ H ⟨μ, st, σ, r, st', gd, er, hv, k⟩ => ?_
  unfold tryS at hv
  cases e : b σ st with
  | none => rw [e] at hv; cases hv
  | some p =>
    obtain ⟨r1, s1⟩ := p
    simp only [e] at hv
    refine ⟨μ, st, σ, r1, s1, gd, er, e, ?_⟩
    cases r1 with
    | ok r1 =>
      cases hv
      exact k
    | exc σ1 c ds =>
      have hv2 : (if c = x ∧ i < σ1.length then (su ds (σ1.set i none) s1).map fun p => (clrR i p.1, p.2) else none) = some (r, st') := hv
      clear hv
      have hv := hv2
      clear hv2
      split at hv
      · rename_i hcc
        obtain ⟨hcc, hil⟩ := hcc
        subst hcc
        cases e2 : su ds (σ1.set i none) s1 with
        | none => rw [e2] at hv; cases hv
        | some q =>
          obtain ⟨r2, s2⟩ := q
          rw [e2] at hv
          cases hv
          refine fun μ1 H1 C1 dd fs g1 d1 hC hdd hx τ1 e1 => ?_
          have eC := EC.g
          rw [hC] at eC
          cases eC
          refine ⟨true, EC.te, fun _ a ha => ?_, fun z => Bool.noConfusion z⟩
          have hl : i < τ1.length := by
            rw [← e1.1]
            exact hil
          refine ⟨μ1, s1, σ1.set i none, r2, s2, ds, _, dd, fs, d1, envr_clr e1 i _, List.getElem?_set_self hl, rfl, hC, rfl, hdd, hx, e2, fun μ2 H2 g2 d2 => ?_⟩
          have kk := k μ2 H2 (g1.trans g2) d2
          cases r2 with
          | nx σ2 => exact fun τ2 e3 => kk _ (envr_clr e3 i none)
          | brk σ2 => exact fun τ2 e3 => kk _ (envr_clr e3 i none)
          | cnt σ2 => exact fun τ2 e3 => kk _ (envr_clr e3 i none)
          | ret d => exact kk
      · cases hv
end
end Iv

/-! Iv: what raising comes to, step by step; the errors' classes as the text has them. -/
namespace Iv
open PySem L2 PySem.Spec PyProof.Rows
def WpX (x : Option (RX × Sto)) (Q : RX → Sto → Prop) : Prop := ∃ r st, x = some (r, st) ∧ Q r st
section
variable {σ σ1 σ2 : Sl} {st st1 st2 : Sto} {d : D} {f : SE} {c : ST} {a b : SX} {i n m : Nat} {r : R} {Q Q' : RX → Sto → Prop} {g : Tg} {xs : List D}
theorem wpx_ok {r : RX} {x : Option (RX × Sto)} (h : x = some (r, st)) (q : Q r st) : WpX x Q := ⟨r, st, h, q⟩
theorem wpx_mono {x : Option (RX × Sto)} (h : WpX x Q) (k : ∀ r s, Q r s → Q' r s) : WpX x Q' := let ⟨r, s, e, q⟩ := h; ⟨r, s, e, k r s q⟩
theorem wpx_lift {f : SS} (h : Wp (f σ st) fun r s => Q (.ok r) s) : WpX (liftX f σ st) Q := by
  obtain ⟨r, s, e, q⟩ := h
  exact ⟨.ok r, s, by unfold liftX; rw [e]; rfl, q⟩
theorem wpx_seq (h : WpX (a σ st) fun r s => match r with
    | .ok (.nx σ') => WpX (b σ' s) Q
    | r => Q r s) : WpX (seqX a b σ st) Q := by
  obtain ⟨r, s, e, q⟩ := h
  unfold WpX seqX
  rw [e]
  cases r with
  | exc σ' c ds => exact ⟨_, _, rfl, q⟩
  | ok r =>
    cases r with
    | nx σ' => exact q
    | brk σ' => exact ⟨_, _, rfl, q⟩
    | cnt σ' => exact ⟨_, _, rfl, q⟩
    | ret d => exact ⟨_, _, rfl, q⟩
/-- a step that raises nothing and goes on -/
theorem wpx_nx {f : SS} (h : f σ st = some (.nx σ1, st1)) (q : WpX (b σ1 st1) Q) : WpX (seqX (liftX f) b σ st) Q := wpx_seq ⟨.ok (.nx σ1), st1, by unfold liftX; rw [h]; rfl, q⟩
theorem wpx_if {t : Bool} (h : c σ st = some (t, st1)) (h1 : t = true → WpX (a σ st1) Q) (h2 : t = false → WpX (b σ st1) Q) : WpX (ifX c a b σ st) Q := by
  unfold WpX ifX
  rw [h, bnd_some]
  cases t with
  | true => exact h1 rfl
  | false => exact h2 rfl
theorem wpx_raise {rz : Bool} {x : Str} {g : SA} {ds : List D} (h : g σ st = some (ds, st1)) (hz : rz = true) (hl : ds.length = (flds x).length) (hf : ds.all fmtD = true) (q : Q (.exc σ x ds) st1) : WpX (raiseX rz x g σ st) Q :=
  ⟨_, _, by unfold raiseX; rw [h, bnd_some, if_pos ⟨hz, hl, hf⟩], q⟩
theorem wpx_ret {f : SEX} {d : DX} (h : f σ st = some (d, st1)) (q : match d with
    | .ok d => Q (.ok (.ret d)) st1
    | .exc c ds => Q (.exc σ c ds) st1) : WpX (retX f σ st) Q := by
  unfold WpX retX
  rw [h]
  cases d with
  | ok d => exact ⟨_, _, rfl, q⟩
  | exc c ds => exact ⟨_, _, rfl, q⟩
theorem wpx_ex {f : SEX} {d : DX} (h : f σ st = some (d, st1)) (q : match d with
    | .ok d => Q (.ok (.nx σ)) st1
    | .exc c ds => Q (.exc σ c ds) st1) : WpX (exX f σ st) Q := by
  unfold WpX exX
  rw [h]
  cases d with
  | ok d => exact ⟨_, _, rfl, q⟩
  | exc c ds => exact ⟨_, _, rfl, q⟩
theorem wpx_asg {f : SEX} {d : DX} (h : f σ st = some (d, st1)) (q : match d with
    | .ok d => ∃ σ1, g d σ = some σ1 ∧ Q (.ok (.nx σ1)) st1
    | .exc c ds => Q (.exc σ c ds) st1) : WpX (asgX g f σ st) Q := by
  unfold WpX asgX
  rw [h]
  cases d with
  | ok d =>
    obtain ⟨σ1, e, q⟩ := q
    refine ⟨_, _, ?_, q⟩
    simp only [e]
    rfl
  | exc c ds => exact ⟨_, _, rfl, q⟩
theorem wpx_for {i : SJ} {J : It} (P : Nat → Sl → Sto → Prop) (hi : i σ st = some (J, st1)) (hx : items J st1 = some xs) (h0 : P 0 σ st1) (hg : ∀ j σ s, P j σ s → items J s = some xs)
    (h : ∀ (j : Nat) (σ : Sl) (st : Sto) (d : D), xs[j]? = some d → P j σ st → ∃ σ1, g d σ = some σ1 ∧ WpX (b σ1 st) fun r s => match r with
      | .ok (.nx σ2) => P (j + 1) σ2 s
      | .ok (.cnt σ2) => P (j + 1) σ2 s
      | .ok (.brk σ2) => Q (.ok (.nx σ2)) s
      | .ok (.ret d) => Q (.ok (.ret d)) s
      | .exc σ2 c ds => Q (.exc σ2 c ds) s)
    (he : ∀ σ s, P xs.length σ s → Q (.ok (.nx σ)) s) : WpX (forX i g b σ st) Q := by
  have key : ∀ m j σ s, P j σ s → j ≤ xs.length → xs.length + 1 ≤ m + j → WpX (forXV J g b m j σ s) Q := by
    intro m
    induction m with
    | zero => intro j σ s p h1 h2; omega
    | succ m ih =>
      intro j σ s p h1 h2
      unfold forXV
      rw [hg j σ s p]
      simp only
      cases e : xs[j]? with
      | none =>
        have : xs.length ≤ j := by simpa using e
        have e2 : j = xs.length := by omega
        subst e2
        exact ⟨_, _, rfl, he _ _ p⟩
      | some d =>
        have hj := (List.getElem?_eq_some_iff.mp e).1
        obtain ⟨σ1, e1, r, s2, e2, q⟩ := h j σ s d e p
        simp only [e1, e2]
        cases r with
        | exc σ2 c ds => exact ⟨_, _, rfl, q⟩
        | ok r =>
          cases r with
          | nx σ2 => exact ih (j + 1) σ2 s2 q (by omega) (by omega)
          | cnt σ2 => exact ih (j + 1) σ2 s2 q (by omega) (by omega)
          | brk σ2 => exact ⟨_, _, rfl, q⟩
          | ret d => exact ⟨_, _, rfl, q⟩
  unfold forX
  rw [hi, bnd_some, hx]
  exact key (xs.length + 1) 0 σ st1 h0 (Nat.zero_le _) (by omega)
theorem wpx_while {k : Nat} (P : Sl → Sto → Prop) (μ : Sl → Sto → Nat) (h0 : P σ st) (hk : μ σ st < k)
    (h : ∀ σ st, P σ st → ∃ t st1, c σ st = some (t, st1) ∧ (t = true → WpX (b σ st1) fun r s => match r with
      | .ok (.nx σ2) => P σ2 s ∧ μ σ2 s < μ σ st
      | .ok (.cnt σ2) => P σ2 s ∧ μ σ2 s < μ σ st
      | .ok (.brk σ2) => Q (.ok (.nx σ2)) s
      | .ok (.ret d) => Q (.ok (.ret d)) s
      | .exc σ2 c ds => Q (.exc σ2 c ds) s) ∧ (t = false → Q (.ok (.nx σ)) st1)) : WpX (whlX k c b σ st) Q := by
  have key : ∀ m σ s, P σ s → μ σ s < m → WpX (whlXV c b m σ s) Q := by
    intro m
    induction m with
    | zero => intro σ s p h2; omega
    | succ m ih =>
      intro σ s p h2
      obtain ⟨t, s1, e1, h3, h4⟩ := h σ s p
      unfold whlXV
      rw [e1, bnd_some]
      cases t with
      | false => exact ⟨_, _, rfl, h4 rfl⟩
      | true =>
        rw [if_pos rfl]
        obtain ⟨r, s2, e2, q⟩ := h3 rfl
        rw [e2]
        cases r with
        | exc σ2 c ds => exact ⟨_, _, rfl, q⟩
        | ok r =>
          cases r with
          | nx σ2 => exact ih σ2 s2 q.1 (by omega)
          | cnt σ2 => exact ih σ2 s2 q.1 (by omega)
          | brk σ2 => exact ⟨_, _, rfl, q⟩
          | ret d => exact ⟨_, _, rfl, q⟩
  exact key k σ st h0 hk
/-- a raising def's own end -/
theorem wpx_run {ns np : Nat} {ds : List D} {Q : DX → Sto → Prop} (hl : ds.length = np) (h : WpX (b (ds.map some ++ List.replicate (ns - np) none) st) fun r s => match r with
    | .ok (.nx _) => Q (.ok .non) s
    | .ok (.ret d) => Q (.ok d) s
    | .exc _ c es => Q (.exc c es) s
    | _ => False) : ∃ d s, runX ns np b ds st = some (d, s) ∧ Q d s := by
  obtain ⟨r, s, e, q⟩ := h
  unfold runX
  rw [if_pos hl, e]
  cases r with
  | exc σ c es => exact ⟨_, _, rfl, q⟩
  | ok r =>
    cases r with
    | nx _ => exact ⟨_, _, rfl, q⟩
    | ret d => exact ⟨_, _, rfl, q⟩
    | brk _ => exact q.elim
    | cnt _ => exact q.elim
theorem wp_try {x : Str} {su : List D → SS} {Q : R → Sto → Prop} (h : WpX (b σ st) fun r s => match r with
    | .ok r => Q r s
    | .exc σ' c ds => c = x ∧ i < σ'.length ∧ Wp (su ds (σ'.set i none) s) fun r s => Q (clrR i r) s) : Wp (tryS b x i su σ st) Q := by
  obtain ⟨r, s, e, q⟩ := h
  unfold Wp tryS
  rw [e]
  cases r with
  | ok r => exact ⟨_, _, rfl, q⟩
  | exc σ' c ds =>
    obtain ⟨h1, h2, r2, s2, e2, q2⟩ := q
    simp only [if_pos (And.intro h1 h2), e2]
    exact ⟨_, _, rfl, q2⟩
end
/-! ### the classes as the text has them -/
/-- an error's class -/
def ErT (K : PySem.W.Frag) (mg : Str → Option Value) (c qual : Str) (st : Stmt) : Prop := ∃ C fI fd, ErrC K mg c C fI ∧ Fun K "__init__" qual st fI fd ∧ Binds K fd ("self" :: flds c) []
def TurT (K : PySem.W.Frag) (mg : Str → Option Value) : Prop := ∃ Ta, TurC K mg Ta
section
variable {K : PySem.W.Frag} {h : Heap} {mg : Str → Option Value}
/-- an error of the class at S is what «except S» names -/
theorem exm_own {S : Addr} (h1 : PySem.W.subIn K (.ref S) (.type "BaseException") = some true) (h2 : PySem.W.isClsIn K S = true) (h3 : PySem.W.typeIn K (.ref S) = some (.type "type")) (h4 : PySem.W.subIn K (.ref S) (.ref S) = some true) :
    PySem.W.exmOne K (.ref S) (.ref S) = some true := by
  have e1 : (PySem.W.subIn K (.ref S) (.type "BaseException") == some true) = true := by rw [h1] <;> rfl
  have e2 : ((PySem.W.clsIn K S).isSome && PySem.W.typeIn K (.ref S) == some (.type "type")) = true := by
    have h2' : (PySem.W.clsIn K S).isSome = true := h2
    rw [h2', h3] <;> rfl
  show (if (PySem.W.subIn K (.ref S) (.type "BaseException") == some true) = true then (if ((PySem.W.clsIn K S).isSome && PySem.W.typeIn K (.ref S) == some (.type "type")) = true then PySem.W.subIn K (.ref S) (.ref S) else none) else none) = some true
  rw [if_pos e1, if_pos e2]
  exact h4
theorem tur_mk {Ta : Addr} (X : K.In h) (G : h.Ns mainGlobals mg) (a : PySem.W.nsIn K mainGlobals "TurnError" = some (some (.ref Ta))) (rd : PySem.W.readsIn K Ta (.type "type") = true) (ga : PySem.W.specialIn K (.ref Ta) "__getattribute__" = some (some (.builtin "type.__getattribute__")))
    (at_ : PySem.W.findCls K (.ref Ta) (.type "type") "__init__" = some (.val (.builtin "ValueError.__init__"))) : TurT K mg := ⟨Ta, PySem.W.mg_of X G a, rd, ga, at_⟩
theorem er_mk {c qual : Str} {st : Stmt} {C f1 : Addr} {nm q : Str} {N : Addr} {bs : List Value} {bm : List Value} {sn : List Str} {sub : List Value} {ab : Bool} {col : Option Bool} {dd : Option Addr} {m0 m1 m2 m3 m5 : Option Value} {oc kV doc pm cdv ct : Value} {od an : Option Addr} {osl : Array (Option Value)} (X : K.In h) (G : h.Ns mainGlobals mg)
    (aC : PySem.W.nsIn K mainGlobals c = some (some (.ref C)))
    (xL : K.lookup C = some (PySem.excClassObj nm q C N bs bm true sn sub ab col dd m0 m1 m2 m3 m5 "ValueError.__new__")) (hbm : PySem.HandSPX.refsVE bm = true)
    (sa : PySem.W.findIn K (.ref C) "__setattr__" = some (some (.builtin "object.__setattr__"))) (ga : PySem.W.findIn K (.ref C) "__getattribute__" = some (some (.builtin "BaseException.__getattribute__"))) (gg : PySem.W.findIn K (.ref C) "__getattr__" = some none)
    (no : ∀ f ∈ flds c, PySem.W.findIn K (.ref C) f = some none)
    (a1 : PySem.W.findIn K (.ref C) "__init__" = some (some (.ref f1))) (t1 : PySem.W.typeIn K (.ref f1) = some (.type "function"))
    (l1 : K.lookup f1 = some ⟨oc, od, .func (PySem.W.fnOf "__init__" qual (defArgs st) (defBody st) (defScope st) .none kV doc pm an cdv ct), osl⟩) (c1 : PySem.W.codeIn K cdv qual = true) (k1 : PySem.W.keepIn K (.ref f1) = true)
    (kC : PySem.W.keepIn K (.ref C) = true) (eC : PySem.W.subIn K (.ref C) (.type "BaseException") = some true) (tC : PySem.W.typeIn K (.ref C) = some (.type "type")) (hC : PySem.W.hasDictIn K C = true) (iC : PySem.W.isClsIn K C = true) (sC : PySem.W.subIn K (.ref C) (.ref C) = some true)
    (b : ∀ (kV doc pm : Value) (an : Option Addr) (cdv ct : Value) (us : List Value), us.length = (("self" : Str) :: flds c).length → bindArgs (PySem.W.fnOf "__init__" qual (defArgs st) (defBody st) (defScope st) .none kV doc pm an cdv ct) ⟨us, []⟩ = pure ((("self" : Str) :: flds c).zip us)) : ErT K mg c qual st :=
  ⟨C, f1, _, ⟨⟨⟨nm, q, N, bs, bm, sn, sub, ab, col, dd, m0, m1, m2, m3, m5, xL, hbm⟩, sa, eC, tC, kC⟩, PySem.W.mg_of X G aC, a1, t1, exm_own eC iC tC sC, ⟨ga, gg, eC, hC⟩, no⟩, fun_mk l1 c1 k1, (fun_mk l1 c1 k1).binds b⟩
end
end Iv

/-! Iv: defs called within an except suite. -/
namespace Iv
open PySem L2 PySem.Spec PyProof.Rows
theorem rh64 {n : Nat} {A : Around} (hr : L2H.RoomH n A) : A.units + 64 < cLine := by have := hr.un; omega
theorem rh65 {n : Nat} {A : Around} (hr : L2H.RoomH n A) : A.units + 65 < cLine := by have := hr.un; omega
structure CalH (P : Program) (w : World) (K : PySem.W.Frag) (mg : Str → Option Value) (base : Heap) (k : Nat) (x : Str) (ps : List Str) (φ : Fx) : Prop where
  ex : ∃ f fd, L2H.FnH P w K mg base CX0 k f fd ps (spF K w ps.length φ) ∧ mg x = some (.ref f) ∧ PySem.W.keepIn K (.ref f) = true ∧ Binds K fd ps []
  np : ∀ ds st d st', φ ds st = some (d, st') → ds.length = ps.length
section
variable {P : Program} {w : World} {K : PySem.W.Frag} {mg : Str → Option Value} {base : Heap} {k : Nat} {ps : List Str}
theorem calH_ok {x : Str} {st : Stmt} {N : List Str} {body : SS} (Df : Def K mg x st ps) (S : FnScope N ps (defScope st)) (hns : ps.length ≤ N.length)
    (hb : ∀ (f : Addr) (cdv : Value) (A : Around) (outer : List Env) (s : Shared) (H : Hp) (E : XK) (p : Addr × Obj), L2H.RoomH k (A.deeper (PyProof.Rows.envOfC x (defScope st) s.heap.objs.size f cdv)) →
      PSs (L2H.cxH CX0 P w K mg base N x (defScope st) f cdv A outer s H E p) (defBody st) (rdS K w body)) :
    CalH P w K mg base (k + 1) x ps (runF N.length ps.length body) := by
  obtain ⟨f, fd, F, hm, hbd⟩ := Df.ex
  refine ⟨⟨f, fd, ?_, hm, F.kp, hbd⟩, runF_np⟩
  obtain ⟨oc, od, kV, doc, pm, an, cdv, ct, osl, rfl, lk, hcd⟩ := F.ex
  refine L2H.fn_ofH lk hcd S (fun vs H Q E h => h.1) fun A outer s H vs Q E p hot hr h => ⟨_, hb f cdv A outer s H E p hr, ?_⟩
  obtain ⟨hlen, μ, st, ds, d, st', gd, r, hv, q⟩ := h
  unfold runF at hv
  split at hv
  · rename_i hl
    unfold L2.start
    rw [hlen]
    have er := envr_start r (N.length - ps.length)
    cases e : body (ds.map some ++ List.replicate (N.length - ps.length) none) st with
    | none => rw [e] at hv; cases hv
    | some p =>
      obtain ⟨r1, s1⟩ := p
      rw [e] at hv
      refine ⟨μ, st, _, r1, s1, gd, er, e, fun μ1 H1 g1 d1 => ?_⟩
      cases r1 with
      | nx σ1 =>
        cases hv
        exact fun τ1 _ => q μ1 H1 .non g1 d1 (by simp only [Rep])
      | ret x =>
        cases hv
        exact fun v rv => q μ1 H1 v g1 d1 rv
      | brk σ1 => cases hv
      | cnt σ1 => cases hv
  · cases hv
end
section
variable {X : Cx} {mg : Str → Option Value} {c : Str} {i : Nat} {a : Addr} {cls : Value} {d : Option Addr}
def callHF (rz : Bool) (φ : Fx) (g : SA) : SE := fun σ st => if rz = true then callF φ g σ st else none
theorem hot_of {oe : Obj} {pn : List (Addr × Obj)} (hz : L2N.Zn cls d oe) (hf : ∃ vs, oe.data = .fields vs) : L2H.HotC (X.suite a ((a, oe) :: pn)) := by
  obtain ⟨vs, e⟩ := hf
  exact ⟨(a, oe), ⟨rfl, vs, e, hz.2.2 vs e⟩, List.mem_cons_self ..⟩
theorem ue_callH {oe : Obj} {pn : List (Addr × Obj)} {x : Str} {ps : List Str} {φ : Fx} {rz : Bool} {k : Nat} {p pos : Pos} {e : Expr} {es : List Expr} {g : List D → SA} (C : CalH X.prog X.w X.K X.mg X.base 1 x ps φ) (hr : Room k X.A) (hk : rz = true → 2 ≤ k) (hz : L2N.Zn cls d oe) (hf : ∃ vs, oe.data = .fields vs)
    (hg : Gl (X.suite a ((a, oe) :: pn)) x) (ha : PA (X.suite a ((a, oe) :: pn)) (e :: es) (rdUA X.K X.w mg c i g a cls d)) (hdb : (x == ("__debug__" : Str)) = false := by decide) (he : starEach (e :: es) X.env = (false, eval e X.env) :: starEach es X.env := by rfl) (hpl : (backTo pos (starEach es X.env)).any (·.1) = false := by rfl) :
    PE (X.suite a ((a, oe) :: pn)) (.Call (.Name x p) (e :: es) [] pos) (rdUE X.K X.w mg c i (fun ds => callHF rz φ (g ds)) a cls d) := by
  obtain ⟨f, fd, F, hm, hkp, hb⟩ := C.ex
  by_cases hzz : rz = true
  · have hrh : L2H.RoomH 1 (X.suite a ((a, oe) :: pn)).A := L2H.roomH_mark (hr.mono (Nat.le_trans (by decide) (hk hzz))) _
    refine (L2H.pe_callH (X := X.suite a ((a, oe) :: pn)) (E := fun _ => E0) F hrh (hot_of hz hf) hg hm hkp hb (fun σ _ _ _ _ _ _ h => h.elim) ha hdb he hpl).weak fun τ H Q ⟨μ, st, σ, x0, st', ds, C', dd, fs, gd, er, h1, h2, h3, h4, h5, h6, hv, kk⟩ => ?_
    unfold callHF at hv
    have hv2 : (if rz = true then callF φ (g ds) σ st else none) = some (x0, st') := hv
    rw [if_pos hzz] at hv2
    obtain ⟨xs, s1, e1, hv⟩ := bnd_eq hv2
    refine ⟨μ, st, σ, xs, s1, ds, C', dd, fs, gd, er, h1, h2, h3, h4, h5, h6, e1, fun μ1 H1 vs g1 d1 r1 => ?_⟩
    exact ⟨by rw [← r1.len]; exact C.np _ _ _ _ hv, μ1, s1, xs, x0, st', d1, r1, hv, fun μ2 H2 v g2 d2 r2 => kk μ2 H2 v (g1.trans g2) d2 r2⟩
  · refine ⟨fun pins s σ H Q I h => ?_⟩
    obtain ⟨μ, st, σ', x0, st', ds, C', dd, fs, gd, er, h1, h2, h3, h4, h5, h6, hv, kk⟩ := h
    unfold callHF at hv
    have hv2 : (if rz = true then callF φ (g ds) σ' st else none) = some (x0, st') := hv
    rw [if_neg hzz] at hv2
    cases hv2
end
end Iv

/-! a, b, c = x, y, z: stored from the right, the tuple is not kept -/
namespace Iv
open PySem L2 PySem.Spec PyProof.Rows
section
variable {X : Cx}
theorem ss_par3 {i j l : Nat} {x y z : Str} {a b c : Expr} {f : SA} {px py pz pt pos : Pos} {kt k2 pt2} (hc : X.calm = true) (hN : X.N.Nodup) (hi : X.N[i]? = some x) (hj : X.N[j]? = some y) (hl : X.N[l]? = some z) (hij : i ≠ j) (hil : i ≠ l) (hjl : j ≠ l)
    (hx : X.env.scope.names.lookup x = some .local) (hy : X.env.scope.names.lookup y = some .local) (hz : X.env.scope.names.lookup z = some .local) (ha : PA X [a, b, c] (rdA X.K X.w f))
    (hw : swappedStores [.Tuple [.Name x px, .Name y py, .Name z pz] kt pt] (.Tuple [a, b, c] k2 pt2) X.env = pure (some [x, y, z]) := by rfl)
    (hs : swapsWithSole [.Tuple [.Name x px, .Name y py, .Name z pz] kt pt] (.Tuple [a, b, c] k2 pt2) pos.line X.env = pure false := by rfl) :
    PS X (.Assign [.Tuple [.Name x px, .Name y py, .Name z pz] kt pt] (.Tuple [a, b, c] k2 pt2) pos) (rdS X.K X.w (asgS (tupG [i, j, l]) (tupF f))) :=
  (ps_par3 hc hN hi hj hl hij hil hjl hx hy hz ha hw hs).weak fun Dn τ H ⟨μ, st, σ, r, st', gd, er, hv, k⟩ => by
    obtain ⟨d, s1, h1, hv⟩ := bnd_eq hv
    obtain ⟨ds, s2, h2, h1⟩ := bnd_eq h1
    by_cases hlim : ds.length ≤ LIM
    · rw [if_pos hlim] at h1
      cases h1
      match ds, hv with
      | [d1, d2, d3], hv =>
        cases hv
        refine ⟨μ, st, σ, _, _, gd, er, h2, fun μ1 H1 vs g1 gd1 rs => ?_⟩
        simp only [Reps] at rs
        obtain ⟨v1, w1, rfl, r1, v2, w2, rfl, r2, v3, w3, rfl, r3, rfl⟩ := rs
        exact ⟨v1, v2, v3, rfl, k μ1 H1 g1 gd1 _ ((((er.m g1).set i r1).set j r2).set l r3)⟩
      | [], hv => cases hv
      | [_], hv => cases hv
      | [_, _], hv => cases hv
      | _ :: _ :: _ :: _ :: _, hv => cases hv
    · rw [if_neg hlim] at h1; cases h1
theorem ss_par2 {i j : Nat} {x y : Str} {a b : Expr} {f : SA} {px py pt pos : Pos} {kt k2 pt2} (hc : X.calm = true) (hN : X.N.Nodup) (hi : X.N[i]? = some x) (hj : X.N[j]? = some y) (hij : i ≠ j)
    (hx : X.env.scope.names.lookup x = some .local) (hy : X.env.scope.names.lookup y = some .local) (ha : PA X [a, b] (rdA X.K X.w f))
    (hw : swappedStores [.Tuple [.Name x px, .Name y py] kt pt] (.Tuple [a, b] k2 pt2) X.env = pure (some [x, y]) := by rfl)
    (hs : swapsWithSole [.Tuple [.Name x px, .Name y py] kt pt] (.Tuple [a, b] k2 pt2) pos.line X.env = pure false := by rfl) :
    PS X (.Assign [.Tuple [.Name x px, .Name y py] kt pt] (.Tuple [a, b] k2 pt2) pos) (rdS X.K X.w (asgS (tupG [i, j]) (tupF f))) :=
  (ps_par hc hN hi hj hij hx hy ha hw hs).weak fun Dn τ H ⟨μ, st, σ, r, st', gd, er, hv, k⟩ => by
    obtain ⟨d, s1, h1, hv⟩ := bnd_eq hv
    obtain ⟨ds, s2, h2, h1⟩ := bnd_eq h1
    by_cases hlim : ds.length ≤ LIM
    · rw [if_pos hlim] at h1
      cases h1
      match ds, hv with
      | [d1, d2], hv =>
        cases hv
        refine ⟨μ, st, σ, _, _, gd, er, h2, fun μ1 H1 vs g1 gd1 rs => ?_⟩
        simp only [Reps] at rs
        obtain ⟨v1, w1, rfl, r1, v2, w2, rfl, r2, rfl⟩ := rs
        exact ⟨v1, v2, rfl, k μ1 H1 g1 gd1 _ (((er.m g1).set i r1).set j r2)⟩
      | [], hv => cases hv
      | [_], hv => cases hv
      | _ :: _ :: _ :: _, hv => cases hv
    · rw [if_neg hlim] at h1; cases h1
end
end Iv

/-! What a form comes to, the store left aside: it only grows. s is a store that is known; the run's store has grown out of it. -/
namespace Iv
open PySem L2
def Ev (s : Sto) (e : SE) (σ : Sl) (d : D) : Prop := ∀ st, Ext s st → ∃ st2, e σ st = some (d, st2) ∧ Ext st st2
def Ea (s : Sto) (e : SA) (σ : Sl) (d : List D) : Prop := ∀ st, Ext s st → ∃ st2, e σ st = some (d, st2) ∧ Ext st st2
def Et (s : Sto) (e : ST) (σ : Sl) (d : Bool) : Prop := ∀ st, Ext s st → ∃ st2, e σ st = some (d, st2) ∧ Ext st st2
def Eo (s : Sto) (e : SO) (σ : Sl) (d : Option Int) : Prop := ∀ st, Ext s st → ∃ st2, e σ st = some (d, st2) ∧ Ext st st2
def Es (s : Sto) (e : SS) (σ : Sl) (d : R) : Prop := ∀ st, Ext s st → ∃ st2, e σ st = some (d, st2) ∧ Ext st st2
def Ei (s : Sto) (i : SJ) (σ : Sl) (xs : List D) : Prop := ∀ st, Ext s st → ∃ J st2, i σ st = some (J, st2) ∧ Ext st st2 ∧ ∀ s3, Ext st2 s3 → items J s3 = some xs
/-- a call -/
def Rt (s : Sto) (φ : Fx) (ds : List D) (d : D) : Prop := ∀ st, Ext s st → ∃ st2, φ ds st = some (d, st2) ∧ Ext st st2
def O2 (s : Sto) (o : Op2) (x y d : D) : Prop := ∀ st, Ext s st → ∃ st2, o x y st = some (d, st2) ∧ Ext st st2
def O1 (s : Sto) (o : Op1) (x d : D) : Prop := ∀ st, Ext s st → ∃ st2, o x st = some (d, st2) ∧ Ext st st2
def ON (s : Sto) (o : OpN) (x : List D) (d : D) : Prop := ∀ st, Ext s st → ∃ st2, o x st = some (d, st2) ∧ Ext st st2
def OSl (s : Sto) (o : OpS) (x : D) (l h : Option Int) (d : D) : Prop := ∀ st, Ext s st → ∃ st2, o x l h st = some (d, st2) ∧ Ext st st2
section
variable {s : Sto} {σ σ1 σ2 : Sl} {d x y : D} {xs ys ds : List D} {f g h : SE} {a : SA} {c c2 : ST} {b b1 b2 : Bool} {p q : SS} {r : R} {lo hi : SO} {l u : Option Int} {i n m : Nat} {φ : Fx}
theorem Rt.mono {s2 : Sto} (h : Rt s φ ds d) (e : Ext s s2) : Rt s2 φ ds d := fun st k => h st (e.trans k)
theorem Ev.mono {s2 : Sto} (h : Ev s f σ d) (e : Ext s s2) : Ev s2 f σ d := fun st k => h st (e.trans k)
theorem Es.mono {s2 : Sto} (h : Es s p σ r) (e : Ext s s2) : Es s2 p σ r := fun st k => h st (e.trans k)
theorem Ev.var (h : σ[i]? = some (some d)) : Ev s (varF i) σ d := fun st _ => ⟨st, by rw [varF_eq, h], Ext.refl⟩
theorem Ev.cst : Ev s (cstF d) σ d := fun st _ => ⟨st, rfl, Ext.refl⟩
theorem Ev.bin {o : Op2} (hf : Ev s f σ x) (hg : Ev s g σ y) (ho : O2 s o x y d) : Ev s (binF o f g) σ d := fun st k => by
  obtain ⟨s1, e1, x1⟩ := hf st k
  obtain ⟨s2, e2, x2⟩ := hg s1 (k.trans x1)
  obtain ⟨s3, e3, x3⟩ := ho s2 ((k.trans x1).trans x2)
  exact ⟨s3, by rw [binF_eq, e1, bnd_some, e2, bnd_some, e3], (x1.trans x2).trans x3⟩
theorem Ev.un {o : Op1} (hf : Ev s f σ x) (ho : O1 s o x d) : Ev s (unF o f) σ d := fun st k => by
  obtain ⟨s1, e1, x1⟩ := hf st k
  obtain ⟨s3, e3, x3⟩ := ho s1 (k.trans x1)
  exact ⟨s3, by rw [unF_eq, e1, bnd_some, e3], x1.trans x3⟩
theorem Ea.nil : Ea s nilF σ [] := fun st _ => ⟨st, rfl, Ext.refl⟩
theorem Ea.cons (hf : Ev s f σ x) (ha : Ea s a σ xs) : Ea s (consF f a) σ (x :: xs) := fun st k => by
  obtain ⟨s1, e1, x1⟩ := hf st k
  obtain ⟨s2, e2, x2⟩ := ha s1 (k.trans x1)
  exact ⟨s2, by rw [consF_eq, e1, bnd_some, e2, bnd_some], x1.trans x2⟩
theorem Ev.app {o : OpN} (ha : Ea s a σ xs) (ho : ON s o xs d) : Ev s (appF o a) σ d := fun st k => by
  obtain ⟨s1, e1, x1⟩ := ha st k
  obtain ⟨s3, e3, x3⟩ := ho s1 (k.trans x1)
  exact ⟨s3, by rw [appF_eq, e1, bnd_some, e3], x1.trans x3⟩
theorem Ev.call (ha : Ea s a σ xs) (ho : Rt s φ xs d) : Ev s (callF φ a) σ d := fun st k => by
  obtain ⟨s1, e1, x1⟩ := ha st k
  obtain ⟨s3, e3, x3⟩ := ho s1 (k.trans x1)
  exact ⟨s3, by rw [callF_eq, e1, bnd_some, e3], x1.trans x3⟩
theorem Ev.tup (ha : Ea s a σ xs) (hl : decide (xs.length ≤ 1000000) = true) : Ev s (tupF a) σ (.tup xs) := fun st k => by
  obtain ⟨s1, e1, x1⟩ := ha st k
  have hl' : xs.length ≤ LIM := of_decide_eq_true hl
  exact ⟨s1, by rw [tupF_eq, e1, bnd_some, if_pos hl'], x1⟩
theorem Eo.none : Eo s noneO σ none := fun st _ => ⟨st, rfl, Ext.refl⟩
theorem Eo.some {v : Int} (hf : Ev s f σ (.int v)) : Eo s (someO f) σ (some v) := fun st k => by
  obtain ⟨s1, e1, x1⟩ := hf st k
  exact ⟨s1, by rw [someO_eq, e1, bnd_some], x1⟩
theorem Ev.sl {o : OpS} (hf : Ev s f σ x) (hl : Eo s lo σ l) (hh : Eo s hi σ u) (ho : OSl s o x l u d) : Ev s (slF o f lo hi) σ d := fun st k => by
  obtain ⟨s1, e1, x1⟩ := hf st k
  obtain ⟨s2, e2, x2⟩ := hl s1 (k.trans x1)
  obtain ⟨s3, e3, x3⟩ := hh s2 ((k.trans x1).trans x2)
  obtain ⟨s4, e4, x4⟩ := ho s3 (((k.trans x1).trans x2).trans x3)
  exact ⟨s4, by rw [slF_eq, e1, bnd_some, e2, bnd_some, e3, bnd_some, e4], ((x1.trans x2).trans x3).trans x4⟩
theorem Ev.ifT (hc : Et s c σ b) (hb : b = true) (hf : Ev s f σ d) : Ev s (ifF c f g) σ d := fun st k => by
  obtain ⟨s1, e1, x1⟩ := hc st k
  obtain ⟨s2, e2, x2⟩ := hf s1 (k.trans x1)
  exact ⟨s2, by rw [ifF_eq, e1, bnd_some, if_pos hb, e2], x1.trans x2⟩
theorem Ev.ifF (hc : Et s c σ b) (hb : b = false) (hg : Ev s g σ d) : Ev s (ifF c f g) σ d := fun st k => by
  obtain ⟨s1, e1, x1⟩ := hc st k
  obtain ⟨s2, e2, x2⟩ := hg s1 (k.trans x1)
  exact ⟨s2, by rw [ifF_eq, e1, bnd_some, if_neg (by simp [hb]), e2], x1.trans x2⟩
theorem Ev.and (hf : Ev s f σ (.bl b1)) (hg : b1 = true → Ev s g σ (.bl b2)) : Ev s (andF f g) σ (.bl (b1 && b2)) := fun st k => by
  obtain ⟨s1, e1, x1⟩ := hf st k
  cases b1 with
  | false => exact ⟨s1, by rw [andF_eq, e1]; rfl, x1⟩
  | true =>
    obtain ⟨s2, e2, x2⟩ := hg rfl s1 (k.trans x1)
    refine ⟨s2, ?_, x1.trans x2⟩
    rw [andF_eq, e1]
    show g σ s1 = _
    rw [e2, Bool.true_and]
theorem Ev.or (hf : Ev s f σ (.bl b1)) (hg : b1 = false → Ev s g σ (.bl b2)) : Ev s (orF f g) σ (.bl (b1 || b2)) := fun st k => by
  obtain ⟨s1, e1, x1⟩ := hf st k
  cases b1 with
  | true => exact ⟨s1, by rw [orF_eq, e1]; rfl, x1⟩
  | false =>
    obtain ⟨s2, e2, x2⟩ := hg rfl s1 (k.trans x1)
    refine ⟨s2, ?_, x1.trans x2⟩
    rw [orF_eq, e1]
    show g σ s1 = _
    rw [e2, Bool.false_or]
/-- a place of a tuple of texts -/
theorem Ev.tix {zs : List Str} {z : Str} (hf : Ev s f σ (.tup (zs.map .str))) (ha : Ea s a σ [.str z]) (hz : zs[n]? = some z) (hn : ∀ j w, j < n → zs[j]? = some w → w ≠ z) : Ev s (tixF f a) σ (.int n) := fun st k => by
  obtain ⟨s1, e1, x1⟩ := hf st k
  obtain ⟨s2, e2, x2⟩ := ha s1 (k.trans x1)
  refine ⟨s2, ?_, x1.trans x2⟩
  have ns : nst (zs.map .str) = true := by
    have h0 : zs ≠ [] := by rintro rfl; simp at hz
    unfold nst
    simp [h0, strD]
  have sd : strsD (zs.map .str) = some zs := by
    clear hz hn ns e1 hf
    induction zs with
    | nil => rfl
    | cons w zs ih => simp [strsD, ih]
  have ix : ∀ (zs : List Str) (n : Nat), zs[n]? = some z → (∀ j w, j < n → zs[j]? = some w → w ≠ z) → idxS zs z = some n := by
    intro zs
    induction zs with
    | nil => intro n h; simp at h
    | cons w zs ih =>
      intro n h h2
      cases n with
      | zero => simp at h; subst h; simp [idxS]
      | succ n =>
        have hw : w ≠ z := h2 0 w (by omega) rfl
        have := ih n (by simpa using h) (fun j v hj e => h2 (j + 1) v (by omega) (by simpa using e))
        unfold idxS
        simp [hw, this]
  rw [tixF_eq, e1, bnd_some]
  simp only [ns, if_true, e2, bnd_some]
  unfold indexC
  simp only [sd, ix zs n hz hn]
theorem Et.tru (hf : Ev s f σ x) (ht : ∀ st, truth x st = some b) : Et s (truF f) σ b := fun st k => by
  obtain ⟨s1, e1, x1⟩ := hf st k
  exact ⟨s1, by rw [truF_eq, e1, bnd_some, ht]; rfl, x1⟩
theorem Et.cmp {o : Op2} (hf : Ev s f σ x) (hg : Ev s g σ y) (ho : O2 s o x y (.bl b)) : Et s (cmpT o f g) σ b := Et.tru (Ev.bin hf hg ho) fun _ => rfl
theorem Et.and (hf : Et s c σ b1) (hg : b1 = true → Et s c2 σ b2) : Et s (andT c c2) σ (b1 && b2) := fun st k => by
  obtain ⟨s1, e1, x1⟩ := hf st k
  cases b1 with
  | false => exact ⟨s1, by rw [andT_eq, e1, bnd_some]; rfl, x1⟩
  | true =>
    obtain ⟨s2, e2, x2⟩ := hg rfl s1 (k.trans x1)
    exact ⟨s2, by rw [andT_eq, e1, bnd_some, if_pos rfl, e2, Bool.true_and], x1.trans x2⟩
theorem Et.or (hf : Et s c σ b1) (hg : b1 = false → Et s c2 σ b2) : Et s (orT c c2) σ (b1 || b2) := fun st k => by
  obtain ⟨s1, e1, x1⟩ := hf st k
  cases b1 with
  | true => exact ⟨s1, by rw [orT_eq, e1, bnd_some]; rfl, x1⟩
  | false =>
    obtain ⟨s2, e2, x2⟩ := hg rfl s1 (k.trans x1)
    exact ⟨s2, by rw [orT_eq, e1, bnd_some, if_neg (by simp), e2, Bool.false_or], x1.trans x2⟩
theorem Et.not (hf : Et s c σ b) : Et s (notT c) σ (!b) := fun st k => by
  obtain ⟨s1, e1, x1⟩ := hf st k
  exact ⟨s1, by rw [notT_eq, e1, bnd_some], x1⟩
theorem Et.of (hf : Et s c σ b) (h : b = b1) : Et s c σ b1 := h ▸ hf
theorem Ev.of (hf : Ev s f σ x) (h : x = d) : Ev s f σ d := h ▸ hf
theorem Es.nx : Es s nxS σ (.nx σ) := fun st _ => ⟨st, rfl, Ext.refl⟩
theorem Es.ret (hf : Ev s f σ d) : Es s (retS f) σ (.ret d) := fun st k => by
  obtain ⟨s1, e1, x1⟩ := hf st k
  exact ⟨s1, by rw [retS_eq, e1, bnd_some], x1⟩
theorem Es.asg {gg : Tg} (hf : Ev s f σ d) (hg : gg d σ = some σ1) : Es s (asgS gg f) σ (.nx σ1) := fun st k => by
  obtain ⟨s1, e1, x1⟩ := hf st k
  exact ⟨s1, by rw [asgS_eq, e1, bnd_some, hg]; rfl, x1⟩
theorem Es.seq (hp : Es s p σ (.nx σ1)) (hq : Es s q σ1 r) : Es s (seqS p q) σ r := fun st k => by
  obtain ⟨s1, e1, x1⟩ := hp st k
  obtain ⟨s2, e2, x2⟩ := hq s1 (k.trans x1)
  exact ⟨s2, by rw [seqS_eq, e1]; exact e2, x1.trans x2⟩
theorem Es.seqR (hp : Es s p σ (.ret d)) : Es s (seqS p q) σ (.ret d) := fun st k => by
  obtain ⟨s1, e1, x1⟩ := hp st k
  exact ⟨s1, by rw [seqS_eq, e1], x1⟩
theorem Es.ifT (hc : Et s c σ b) (hb : b = true) (hp : Es s p σ r) : Es s (ifS c p q) σ r := fun st k => by
  obtain ⟨s1, e1, x1⟩ := hc st k
  obtain ⟨s2, e2, x2⟩ := hp s1 (k.trans x1)
  exact ⟨s2, by rw [ifS_eq, e1, bnd_some, if_pos hb, e2], x1.trans x2⟩
theorem Es.ifF (hc : Et s c σ b) (hb : b = false) (hq : Es s q σ r) : Es s (ifS c p q) σ r := fun st k => by
  obtain ⟨s1, e1, x1⟩ := hc st k
  obtain ⟨s2, e2, x2⟩ := hq s1 (k.trans x1)
  exact ⟨s2, by rw [ifS_eq, e1, bnd_some, if_neg (by simp [hb]), e2], x1.trans x2⟩
/-- a list made by a comprehension, kept under a name -/
theorem Es.asgL (hf : ∀ st, Ext s st → ∃ st2 n, f σ st = some (.loc n, st2) ∧ Ext st st2 ∧ getL st2 n = some xs) (hq : ∀ (s2 : Sto) (n : Nat), Ext s s2 → getL s2 n = some xs → Es s2 q (σ.set i (some (.loc n))) r) : Es s (seqS (asgS (nmG i) f) q) σ r := fun st k => by
  obtain ⟨s1, n, e1, x1, g1⟩ := hf st k
  obtain ⟨s2, e2, x2⟩ := hq s1 n (k.trans x1) g1 s1 Ext.refl
  exact ⟨s2, by rw [seqS_eq, asgS_eq, e1, bnd_some]; exact e2, x1.trans x2⟩
theorem Es.of (hp : Es s p σ r) {r2 : R} (h : r = r2) : Es s p σ r2 := h ▸ hp
theorem Rt.run {ns np : Nat} (hl : ds.length = np) (h : Es s p (ds.map some ++ List.replicate (ns - np) none) (.ret d)) : Rt s (runF ns np p) ds d := fun st k => by
  obtain ⟨s1, e1, x1⟩ := h st k
  exact ⟨s1, run_ret hl e1, x1⟩
theorem Ei.tup (hf : Ev s f σ (.tup xs)) : Ei s (anyI f) σ xs := fun st k => by
  obtain ⟨s1, e1, x1⟩ := hf st k
  exact ⟨.cns xs, s1, by rw [anyI_eq, e1, bnd_some], x1, fun _ _ => rfl⟩
theorem Ei.loc (hf : Ev s f σ (.loc n)) (hg : getL s n = some xs) : Ei s (anyI f) σ xs := fun st k => by
  obtain ⟨s1, e1, x1⟩ := hf st k
  have g1 := (k.trans x1).getL hg
  exact ⟨.lst n, s1, by rw [anyI_eq, e1, bnd_some]; simp only [g1]; rfl, x1, fun s3 k3 => by rw [items_lst]; exact k3.getL g1⟩
theorem Ei.rng {v : Nat} (ha : Ea s a σ [.int v]) (hv : v ≤ LIM) : Ei s (rngI1 a) σ (rngD 0 v) := fun st k => by
  obtain ⟨s1, e1, x1⟩ := ha st k
  exact ⟨.cns _, s1, rng1_nat e1 hv, x1, fun _ _ => rfl⟩
theorem Ev.compF {vs : List Nat} {j : SJ} {gg : Tg} (φ : D → Option D) (hj : Ei s j σ xs) (hl : xs.length ≤ LIM)
    (h : ∀ x ∈ xs, ∃ σ1, gg x (wipeD σ vs) = some σ1 ∧ Et s c σ1 (φ x).isSome ∧ ∀ y, φ x = some y → Ev s f σ1 y) :
    ∀ st, Ext s st → ∃ st2 n, Iv.compF vs j gg c f σ st = some (.loc n, st2) ∧ Ext st st2 ∧ getL st2 n = some (xs.filterMap φ) := fun st k => by
  obtain ⟨J, s1, e1, x1, hJ⟩ := hj st k
  obtain ⟨s2, e2, x2, g2⟩ := compF_ok (vs := vs) (i := j) (g := gg) (c := c) (e := f) (σ := σ) (st := st) φ e1 hl hJ (fun i x ex st2 k2 => by
    obtain ⟨σ1, h1, h2, h3⟩ := h x (List.mem_of_getElem? ex)
    obtain ⟨t1, f1, y1⟩ := h2 st2 ((k.trans x1).trans k2)
    exact ⟨σ1, t1, h1, f1, y1, fun y ey => h3 y ey t1 (((k.trans x1).trans k2).trans y1)⟩)
  exact ⟨s2, s1.length, e2, x1.trans x2, getL_of g2⟩
theorem Ev.comp {vs : List Nat} {j : SJ} {gg : Tg} (φ : D → D) (hj : Ei s j σ xs) (hl : xs.length ≤ LIM)
    (h : ∀ x ∈ xs, ∃ σ1, gg x (wipeD σ vs) = some σ1 ∧ Ev s f σ1 (φ x)) :
    ∀ st, Ext s st → ∃ st2 n, Iv.compF vs j gg yesT f σ st = some (.loc n, st2) ∧ Ext st st2 ∧ getL st2 n = some (xs.map φ) := by
  have e : xs.map φ = xs.filterMap (fun x => some (φ x)) := by simp
  rw [e]
  exact Ev.compF _ hj hl fun x hx => by
    obtain ⟨σ1, h1, h2⟩ := h x hx
    exact ⟨σ1, h1, fun st _ => ⟨st, rfl, Ext.refl⟩, fun y ey => by cases ey; exact h2⟩
/-- a tuple of a list -/
theorem Ev.tupL {e : SE} (h : ∀ st, Ext s st → ∃ st2 n, e σ st = some (.loc n, st2) ∧ Ext st st2 ∧ getL st2 n = some xs) : Ev s (appF tupleO (consF e nilF)) σ (.tup xs) := fun st k => by
  obtain ⟨s1, n, e1, x1, g1⟩ := h st k
  exact ⟨s1, by rw [appF_eq, consF_eq, e1, bnd_some, nilF_eq, bnd_some, bnd_some, tupleO_loc, g1]; rfl, x1⟩
/-- a place of a list -/
theorem Ev.ixL {e : SE} {v : Int} (h : ∀ st, Ext s st → ∃ st2 n, e σ st = some (.loc n, st2) ∧ Ext st st2 ∧ getL st2 n = some xs) (hg : Ev s g σ (.int v)) (hx : atI xs v = some d) : Ev s (binF ixO e g) σ d := fun st k => by
  obtain ⟨s1, n, e1, x1, g1⟩ := h st k
  obtain ⟨s2, e2, x2⟩ := hg s1 (k.trans x1)
  exact ⟨s2, by rw [binF_eq, e1, bnd_some, e2, bnd_some, ixO_loc, x2.getL g1]; simp only [hx, Option.map_some], x1.trans x2⟩
/-! loops -/
theorem for_stay {J : It} {gg : Tg} (P : Nat → Sl → Prop) {s1 : Sto} (hx : Ext s s1) (hJ : ∀ s3, Ext s1 s3 → items J s3 = some xs)
    (h : ∀ (j : Nat) (σ : Sl) (d : D), xs[j]? = some d → P j σ → ∃ σ1 σ2, gg d σ = some σ1 ∧ Es s p σ1 (.nx σ2) ∧ P (j + 1) σ2) :
    ∀ (m i : Nat) (σ : Sl) (st : Sto), P i σ → Ext s1 st → i ≤ xs.length → xs.length - i < m → ∃ σ2 st2, forV J gg p m i σ st = some (.nx σ2, st2) ∧ P xs.length σ2 ∧ Ext st st2
  | 0, i, σ, st, hp, k, hi, hm => by omega
  | m + 1, i, σ, st, hp, k, hi, hm => by
    unfold forV
    simp only [hJ st k]
    cases e : xs[i]? with
    | none =>
      have e2 : i = xs.length := by
        have := List.getElem?_eq_none_iff.mp e
        omega
      subst e2
      exact ⟨σ, st, rfl, hp, Ext.refl⟩
    | some d =>
      obtain ⟨σ1, σ2, h1, h2, h3⟩ := h i σ d e hp
      obtain ⟨st2, e2, x2⟩ := h2 st (hx.trans k)
      have hlt := (List.getElem?_eq_some_iff.mp e).1
      simp only [h1, e2]
      obtain ⟨σ3, st3, e3, p3, x3⟩ := for_stay P hx hJ h m (i + 1) σ2 st2 h3 (k.trans x2) (by omega) (by omega)
      exact ⟨σ3, st3, e3, p3, x2.trans x3⟩
theorem for_leave {J : It} {gg : Tg} (P : Nat → Sl → Prop) (k0 : Nat) (hk0 : k0 < xs.length) {s1 : Sto} (hx : Ext s s1) (hJ : ∀ s3, Ext s1 s3 → items J s3 = some xs)
    (h : ∀ (j : Nat) (σ : Sl) (d : D), j < k0 → xs[j]? = some d → P j σ → ∃ σ1 σ2, gg d σ = some σ1 ∧ Es s p σ1 (.nx σ2) ∧ P (j + 1) σ2)
    (hk : ∀ (σ : Sl), P k0 σ → ∃ y σ1, xs[k0]? = some y ∧ gg y σ = some σ1 ∧ Es s p σ1 (.ret d)) :
    ∀ (m i : Nat) (σ : Sl) (st : Sto), P i σ → Ext s1 st → i ≤ k0 → xs.length - i < m → ∃ st2, forV J gg p m i σ st = some (.ret d, st2) ∧ Ext st st2
  | 0, i, σ, st, hp, k, hi, hm => by omega
  | m + 1, i, σ, st, hp, k, hi, hm => by
    unfold forV
    simp only [hJ st k]
    by_cases e : i = k0
    · subst e
      obtain ⟨y, σ1, h0, h1, h2⟩ := hk σ hp
      obtain ⟨st2, e2, x2⟩ := h2 st (hx.trans k)
      simp only [h0, h1, e2]
      exact ⟨st2, rfl, x2⟩
    · cases ex : xs[i]? with
      | none =>
        exfalso
        have h1 := List.getElem?_eq_none_iff.mp ex
        omega
      | some z =>
        obtain ⟨σ1, σ2, h1, h2, h3⟩ := h i σ z (by omega) ex hp
        obtain ⟨st2, e2, x2⟩ := h2 st (hx.trans k)
        have hlt := (List.getElem?_eq_some_iff.mp ex).1
        simp only [h1, e2]
        obtain ⟨st3, e3, x3⟩ := for_leave P k0 hk0 hx hJ h hk m (i + 1) σ2 st2 h3 (k.trans x2) (by omega) (by omega)
        exact ⟨st3, e3, x2.trans x3⟩
end
end Iv

namespace Iv
open PySem L2
section
variable {s : Sto} {σ σ1 σ2 : Sl} {d x y : D} {xs ys ds : List D} {f g h : SE} {a : SA} {c c2 : ST} {b b1 b2 : Bool} {p q : SS} {r : R} {lo hi : SO} {l u : Option Int} {i n m : Nat} {φ : Fx}
theorem O2.pure {o : Op2} (h : ∀ st, o x y st = some (d, st)) : O2 s o x y d := fun st _ => ⟨st, h st, Ext.refl⟩
theorem O1.pure {o : Op1} (h : ∀ st, o x st = some (d, st)) : O1 s o x d := fun st _ => ⟨st, h st, Ext.refl⟩
theorem ON.pure {o : OpN} (h : ∀ st, o xs st = some (d, st)) : ON s o xs d := fun st _ => ⟨st, h st, Ext.refl⟩
theorem OSl.pure {o : OpS} (h : ∀ st, o x l u st = some (d, st)) : OSl s o x l u d := fun st _ => ⟨st, h st, Ext.refl⟩
theorem o_eqss {x y : Str} : O2 s (eqO false) (.str x) (.str y) (.bl (decide (x = y))) := .pure fun _ => by rw [eqO_str, Bool.bne_false]
theorem o_ness {x y : Str} : O2 s (eqO true) (.str x) (.str y) (.bl (!decide (x = y))) := .pure fun _ => by rw [eqO_str, Bool.bne_true]
theorem o_eqii {x y : Int} : O2 s (eqO false) (.int x) (.int y) (.bl (decide (x = y))) := .pure fun _ => by rw [eqO_int, Bool.bne_false]
theorem o_neii {x y : Int} : O2 s (eqO true) (.int x) (.int y) (.bl (!decide (x = y))) := .pure fun _ => by rw [eqO_int, Bool.bne_true]
theorem o_eqis {x : Int} {y : Str} : O2 s (eqO false) (.int x) (.str y) (.bl false) := .pure fun _ => rfl
theorem o_neis {x : Int} {y : Str} : O2 s (eqO true) (.int x) (.str y) (.bl true) := .pure fun _ => rfl
theorem o_eqns {y : Str} : O2 s (eqO false) .non (.str y) (.bl false) := .pure fun _ => rfl
theorem o_nens {y : Str} : O2 s (eqO true) .non (.str y) (.bl true) := .pure fun _ => rfl
theorem o_eqni {y : Int} : O2 s (eqO false) .non (.int y) (.bl false) := .pure fun _ => rfl
theorem o_neni {y : Int} : O2 s (eqO true) .non (.int y) (.bl true) := .pure fun _ => rfl
theorem o_isN {x : D} : O2 s (isNO false) x .non (.bl (nonD x)) := .pure fun _ => by rw [isNO_non, Bool.bne_false]
theorem o_notN {x : D} : O2 s (isNO true) x .non (.bl (!nonD x)) := .pure fun _ => by rw [isNO_non, Bool.bne_true]
theorem o_isNn : O2 s (isNO false) .non .non (.bl true) := o_isN
theorem o_isNi {x : Int} : O2 s (isNO false) (.int x) .non (.bl false) := o_isN
theorem o_isNs {x : Str} : O2 s (isNO false) (.str x) .non (.bl false) := o_isN
theorem o_isNt {x : List D} : O2 s (isNO false) (.tup x) .non (.bl false) := o_isN
theorem o_notNn : O2 s (isNO true) .non .non (.bl false) := o_notN
theorem o_notNi {x : Int} : O2 s (isNO true) (.int x) .non (.bl true) := o_notN
theorem o_notNs {x : Str} : O2 s (isNO true) (.str x) .non (.bl true) := o_notN
theorem o_notNt {x : List D} : O2 s (isNO true) (.tup x) .non (.bl true) := o_notN
theorem o_add {x y : Int} : O2 s addO (.int x) (.int y) (.int (x + y)) := .pure fun _ => rfl
theorem o_sub {x y : Int} : O2 s subO (.int x) (.int y) (.int (x - y)) := .pure fun _ => rfl
theorem o_lt {x y : Int} : O2 s ltO (.int x) (.int y) (.bl (decide (x < y))) := .pure fun _ => rfl
theorem o_le {x y : Int} : O2 s leO (.int x) (.int y) (.bl (decide (x ≤ y))) := .pure fun _ => rfl
theorem o_gt {x y : Int} : O2 s gtO (.int x) (.int y) (.bl (decide (y < x))) := .pure fun _ => rfl
theorem o_ge {x y : Int} : O2 s geO (.int x) (.int y) (.bl (decide (y ≤ x))) := .pure fun _ => rfl
theorem o_ix0 {ds : List D} : O2 s ixO (.tup (d :: ds)) (.int 0) d := .pure fun _ => by
  have e : atI (d :: ds) 0 = some d := atI_nat (j := 0) rfl
  rw [ixO_tup, e]; rfl
theorem o_ix1 {ds : List D} : O2 s ixO (.tup (x :: d :: ds)) (.int 1) d := .pure fun _ => by
  have e : atI (x :: d :: ds) 1 = some d := atI_nat (j := 1) rfl
  rw [ixO_tup, e]; rfl
theorem o_ix2 {ds : List D} : O2 s ixO (.tup (x :: y :: d :: ds)) (.int 2) d := .pure fun _ => by
  have e : atI (x :: y :: d :: ds) 2 = some d := atI_nat (j := 2) rfl
  rw [ixO_tup, e]; rfl
theorem o_ix3 {z : D} {ds : List D} : O2 s ixO (.tup (x :: y :: z :: d :: ds)) (.int 3) d := .pure fun _ => by
  have e : atI (x :: y :: z :: d :: ds) 3 = some d := atI_nat (j := 3) rfl
  rw [ixO_tup, e]; rfl
theorem o_ix4 {z z2 : D} {ds : List D} : O2 s ixO (.tup (x :: y :: z :: z2 :: d :: ds)) (.int 4) d := .pure fun _ => by
  have e : atI (x :: y :: z :: z2 :: d :: ds) 4 = some d := atI_nat (j := 4) rfl
  rw [ixO_tup, e]; rfl
theorem o_ixn {k : Nat} (h : xs[k]? = some d) : O2 s ixO (.tup xs) (.int k) d := .pure fun _ => by rw [ixO_tup, atI_nat h]; rfl
theorem o_len : ON s lenO [.tup xs] (.int xs.length) := .pure fun _ => rfl
theorem o_intb : ON s intOf [.bl b] (.int (if b then 1 else 0)) := .pure fun _ => rfl
theorem o_inti {v : Int} : ON s intOf [.int v] (.int v) := .pure fun _ => rfl
theorem o_dget {kvs : List (Str × D)} {z : Str} : ON s (dgetO kvs) [.str z] ((lkp kvs z).getD .non) := .pure fun _ => rfl
theorem o_dit {kvs : List (Str × D)} {z : Str} (h : lkp kvs z = some d) : O1 s (ditO kvs) (.str z) d := .pure fun _ => by rw [ditO_str, h]; rfl
theorem o_cat (hl : xs.length + ys.length ≤ 1000000) (hn : nst (xs ++ ys) = false) : O2 s addO (.tup xs) (.tup ys) (.tup (xs ++ ys)) := .pure fun _ => by
  have hl' : xs.length + ys.length ≤ LIM := hl
  rw [addO_tup, if_pos ⟨hl', hn⟩]
theorem o_cut (h : nst (cutD xs l u) = false) : OSl s cutO (.tup xs) l u (.tup (cutD xs l u)) := .pure fun _ => by rw [cutO_tup, h]; rfl
theorem o_tuple : ON s tupleO [.tup xs] (.tup xs) := .pure fun _ => rfl
theorem Es.asgN (hf : Ev s f σ d) : Es s (asgS (nmG i) f) σ (.nx (σ.set i (some d))) := Es.asg hf rfl
theorem Es.asg4 {i0 i1 i2 i3 : Nat} {d0 d1 d2 d3 : D} (hf : Ev s f σ (.tup [d0, d1, d2, d3])) : Es s (asgS (tupG [i0, i1, i2, i3]) f) σ (.nx ((((σ.set i0 (some d0)).set i1 (some d1)).set i2 (some d2)).set i3 (some d3))) := Es.asg hf rfl
theorem Es.asg2 {i0 i1 : Nat} {d0 d1 : D} (hf : Ev s f σ (.tup [d0, d1])) : Es s (asgS (tupG [i0, i1]) f) σ (.nx ((σ.set i0 (some d0)).set i1 (some d1))) := Es.asg hf rfl
theorem Es.seqA (hf : Ev s f σ d) (h : σ.set i (some d) = σ1) (hq : Es s q σ1 r) : Es s (seqS (asgS (nmG i) f) q) σ r := Es.seq (Es.asgN hf) (h ▸ hq)
theorem Es.seqA4 {i0 i1 i2 i3 : Nat} {d0 d1 d2 d3 : D} (hf : Ev s f σ (.tup [d0, d1, d2, d3])) (h : (((σ.set i0 (some d0)).set i1 (some d1)).set i2 (some d2)).set i3 (some d3) = σ1) (hq : Es s q σ1 r) : Es s (seqS (asgS (tupG [i0, i1, i2, i3]) f) q) σ r := Es.seq (Es.asg4 hf) (h ▸ hq)
theorem Es.seqA2 {i0 i1 : Nat} {d0 d1 : D} (hf : Ev s f σ (.tup [d0, d1])) (h : (σ.set i0 (some d0)).set i1 (some d1) = σ1) (hq : Es s q σ1 r) : Es s (seqS (asgS (tupG [i0, i1]) f) q) σ r := Es.seq (Es.asg2 hf) (h ▸ hq)
/-- an if that leaves -/
theorem Es.seqRT (hc : Et s c σ b) (hb : b = true) (hf : Ev s f σ d) : Es s (seqS (ifS c (retS f) p) q) σ (.ret d) := Es.seqR (Es.ifT hc hb (Es.ret hf))
/-- an if that is passed -/
theorem Es.seqRF (hc : Et s c σ b) (hb : b = false) (hq : Es s q σ r) : Es s (seqS (ifS c p nxS) q) σ r := Es.seq (Es.ifF hc hb Es.nx) hq
/-- an if that gives a name -/
theorem Es.seqT (hc : Et s c σ b) (hb : b = true) (hp : Es s p σ (.nx σ1)) (hq : Es s q σ1 r) : Es s (seqS (ifS c p c3) q) σ r := Es.seq (Es.ifT hc hb hp) hq
theorem Es.seqF (hc : Et s c σ b) (hb : b = false) (hp : Es s c3 σ (.nx σ1)) (hq : Es s q σ1 r) : Es s (seqS (ifS c p c3) q) σ r := Es.seq (Es.ifF hc hb hp) hq
theorem Es.seqTR (hc : Et s c σ b) (hb : b = true) (hp : Es s p σ (.ret d)) : Es s (seqS (ifS c p c3) q) σ (.ret d) := Es.seqR (Es.ifT hc hb hp)
end
end Iv

namespace Iv
open PySem L2
/-! comprehensions over a list that is a map; what is kept may speak of the item itself -/
section
variable {α : Type} {s : Sto} {σ σ1 : Sl} {f e : SE} {c : ST} {j : SJ} {gg : Tg}
theorem compM_loop {J : It} {L : List α} {fd : α → D} {σ0 : Sl} {st1 : Sto} {n : Nat} (φ : α → Option D) (hn : st1.length ≤ n) (hz : L.length ≤ LIM) (hJ : ∀ s, Ext st1 s → items J s = some (L.map fd))
    (h : ∀ x ∈ L, ∀ st, Ext st1 st → ∃ σ1 st2, gg (fd x) σ0 = some σ1 ∧ c σ1 st = some ((φ x).isSome, st2) ∧ Ext st st2 ∧ ∀ y, φ x = some y → ∃ st3, e σ1 st2 = some (y, st3) ∧ Ext st2 st3) :
    ∀ (m i : Nat) (s : Sto), Ext st1 s → s[n]? = some (.lst ((L.take i).filterMap φ)) → i ≤ L.length → L.length - i < m → ∃ s2, compV J gg c e n σ0 m i s = some s2 ∧ Ext st1 s2 ∧ s2[n]? = some (.lst (L.filterMap φ))
  | 0, i, s, _, _, _, hm => by omega
  | m + 1, i, s, hs, ha, hi, hm => by
    unfold compV
    simp only [hJ s hs, List.getElem?_map]
    cases ex : L[i]? with
    | none =>
      have e2 : i = L.length := by
        have := List.getElem?_eq_none_iff.mp ex
        omega
      subst e2
      rw [List.take_length] at ha
      exact ⟨s, rfl, hs, ha⟩
    | some x =>
      have hlt := (List.getElem?_eq_some_iff.mp ex).1
      obtain ⟨σ1, s2, e1, e2, x2, e3⟩ := h x (List.mem_of_getElem? ex) s hs
      have ht : (L.take (i + 1)).filterMap φ = (L.take i).filterMap φ ++ (match φ x with
        | some y => [y]
        | none => []) := by
        rw [List.take_add_one, ex, List.filterMap_append]
        cases hx : φ x <;> simp [hx]
      cases hx : φ x with
      | none =>
        rw [hx] at e2 ht
        simp only [Option.map_some, e1, e2, bnd_some, Option.isSome_none, Bool.false_eq_true, if_false]
        exact compM_loop φ hn hz hJ h m (i + 1) _ (hs.trans x2) (by rw [ht, List.append_nil]; exact x2.at ha) hlt (by omega)
      | some y =>
        obtain ⟨s3, e4, x3⟩ := e3 y hx
        rw [hx] at e2 ht
        have hs3 := (hs.trans x2).trans x3
        have ha3 := x3.at (x2.at ha)
        have ga : getM s3 n = some ((L.take i).filterMap φ) := getM_of ha3
        have hl : ((L.take i).filterMap φ).length < LIM := by
          have h1 := List.length_filterMap_le φ (L.take i)
          rw [List.length_take] at h1
          exact Nat.lt_of_lt_of_le (by omega) hz
        have hn2 : n < s3.length := (List.getElem?_eq_some_iff.mp ha3).1
        simp only [Option.map_some, e1, e2, bnd_some, Option.isSome_some, if_true, e4, ga, hl]
        refine compM_loop φ hn hz hJ h m (i + 1) _ (hs3.set hn) ?_ hlt (by omega)
        rw [List.getElem?_set_self hn2, ht]
theorem Ev.compMn {vs : List Nat} {L : List α} {fd : α → D} (φ : α → Option D) (hj : Ei s j σ (L.map fd)) (hl : L.length ≤ LIM)
    (h : ∀ x ∈ L, ∃ σ1, gg (fd x) (wipeD σ vs) = some σ1 ∧ Et s c σ1 (φ x).isSome ∧ ∀ y, φ x = some y → Ev s e σ1 y) :
    ∀ st, Ext s st → ∃ st2 n, Iv.compF vs j gg c e σ st = some (.loc n, st2) ∧ Ext st st2 ∧ getL st2 n = some (L.filterMap φ) ∧ st.length ≤ n := fun st k => by
  obtain ⟨J, s1, e1, x1, hJ⟩ := hj st k
  obtain ⟨s2, e2, x2, g2⟩ := compM_loop (gg := gg) (c := c) (e := e) (n := s1.length) (σ0 := wipeD σ vs) φ (Nat.le_refl _) hl hJ (fun x hx st2 k2 => by
    obtain ⟨σ1, h1, h2, h3⟩ := h x hx
    obtain ⟨t1, f1, y1⟩ := h2 st2 ((k.trans x1).trans k2)
    exact ⟨σ1, t1, h1, f1, y1, fun y ey => h3 y ey t1 (((k.trans x1).trans k2).trans y1)⟩) (L.length + 1) 0 (s1 ++ [.lst []]) (Ext.app _) (by simp) (Nat.zero_le _) (by omega)
  refine ⟨s2, s1.length, ?_, x1.trans x2, getL_of g2, x1.1⟩
  unfold Iv.compF
  simp only [e1, bnd_some, hJ s1 Ext.refl, List.length_map, e2, Option.map_some]
theorem Ev.compM {vs : List Nat} {L : List α} {fd : α → D} (φ : α → Option D) (hj : Ei s j σ (L.map fd)) (hl : L.length ≤ LIM)
    (h : ∀ x ∈ L, ∃ σ1, gg (fd x) (wipeD σ vs) = some σ1 ∧ Et s c σ1 (φ x).isSome ∧ ∀ y, φ x = some y → Ev s e σ1 y) :
    ∀ st, Ext s st → ∃ st2 n, Iv.compF vs j gg c e σ st = some (.loc n, st2) ∧ Ext st st2 ∧ getL st2 n = some (L.filterMap φ) := fun st k => by
  obtain ⟨s2, n, h1, h2, h3, _⟩ := Ev.compMn φ hj hl h st k
  exact ⟨s2, n, h1, h2, h3⟩
/-- what is kept, tested by a truth value -/
theorem Ev.compB {vs : List Nat} {L : List α} {fd : α → D} (b : α → Bool) (φ : α → D) (hj : Ei s j σ (L.map fd)) (hl : L.length ≤ LIM)
    (h : ∀ x ∈ L, ∃ σ1, gg (fd x) (wipeD σ vs) = some σ1 ∧ Et s c σ1 (b x) ∧ (b x = true → Ev s e σ1 (φ x))) :
    ∀ st, Ext s st → ∃ st2 n, Iv.compF vs j gg c e σ st = some (.loc n, st2) ∧ Ext st st2 ∧ getL st2 n = some ((L.filter b).map φ) := by
  have e0 : (L.filter b).map φ = L.filterMap (fun x => if b x = true then some (φ x) else none) := by
    induction L with
    | nil => rfl
    | cons x L ih =>
      have hl' : L.length ≤ LIM := by rw [List.length_cons] at hl; omega
      rw [List.filter_cons, List.filterMap_cons]
      clear hj h hl hl' ih
      induction L generalizing x with
      | nil => by_cases hb : b x = true <;> simp [hb]
      | cons y L ih =>
        have := ih y
        rw [List.filter_cons, List.filterMap_cons]
        by_cases hb : b x = true <;> by_cases hy : b y = true <;> simp [hb, hy] at this ⊢ <;> exact this
  rw [e0]
  refine Ev.compM _ hj hl fun x hx => ?_
  obtain ⟨σ1, h1, h2, h3⟩ := h x hx
  refine ⟨σ1, h1, ?_, fun y hy => ?_⟩
  · have : (if b x = true then some (φ x) else none).isSome = b x := by cases b x <;> rfl
    rw [this]; exact h2
  · by_cases hb : b x = true
    · rw [if_pos hb] at hy; cases hy; exact h3 hb
    · rw [if_neg hb] at hy; cases hy
end
end Iv

namespace Iv
open PySem L2
/-! statements, with what is wanted of their end -/
def Ep (s : Sto) (p : SS) (σ : Sl) (Q : R → Prop) : Prop := ∀ st, Ext s st → ∃ r st2, p σ st = some (r, st2) ∧ Q r ∧ Ext st st2
theorem ext_nil {st : Sto} : Ext [] st := ⟨Nat.zero_le _, fun n h => absurd h (Nat.not_lt_zero _)⟩
section
variable {s : Sto} {σ σ1 σ2 : Sl} {d : D} {xs ds : List D} {f : SE} {c : ST} {b : Bool} {p q : SS} {r : R} {Q Q' : R → Prop} {i : SJ} {gg : Tg}
theorem Es.ep (h : Es s p σ r) (hq : Q r) : Ep s p σ Q := fun st k => by
  obtain ⟨st2, e, x⟩ := h st k
  exact ⟨r, st2, e, hq, x⟩
theorem Ep.mono (h : Ep s p σ Q) (k : ∀ r, Q r → Q' r) : Ep s p σ Q' := fun st e => by
  obtain ⟨r, st2, e, hq, x⟩ := h st e
  exact ⟨r, st2, e, k r hq, x⟩
theorem Ep.ext {s2 : Sto} (h : Ep s p σ Q) (e : Ext s s2) : Ep s2 p σ Q := fun st k => h st (e.trans k)
theorem Ep.seq (h : Ep s p σ fun r => match r with
    | .nx σ' => Ep s q σ' Q
    | r => Q r) : Ep s (seqS p q) σ Q := fun st k => by
  obtain ⟨r, s1, e, hq, x⟩ := h st k
  cases r with
  | nx σ' =>
    obtain ⟨r, s2, e2, hq2, x2⟩ := hq s1 (k.trans x)
    exact ⟨r, s2, by rw [seqS_eq, e]; exact e2, hq2, x.trans x2⟩
  | brk σ' => exact ⟨_, s1, by rw [seqS_eq, e], hq, x⟩
  | cnt σ' => exact ⟨_, s1, by rw [seqS_eq, e], hq, x⟩
  | ret d => exact ⟨_, s1, by rw [seqS_eq, e], hq, x⟩
theorem Ep.nx (hp : Es s p σ (.nx σ1)) (hq : Ep s q σ1 Q) : Ep s (seqS p q) σ Q := Ep.seq (hp.ep hq)
theorem Ep.if (hc : Et s c σ b) (h1 : b = true → Ep s p σ Q) (h2 : b = false → Ep s q σ Q) : Ep s (ifS c p q) σ Q := fun st k => by
  obtain ⟨s1, e, x⟩ := hc st k
  cases b with
  | true =>
    obtain ⟨r, s2, e2, hq, x2⟩ := h1 rfl s1 (k.trans x)
    exact ⟨r, s2, by rw [ifS_eq, e, bnd_some, if_pos rfl, e2], hq, x.trans x2⟩
  | false =>
    obtain ⟨r, s2, e2, hq, x2⟩ := h2 rfl s1 (k.trans x)
    exact ⟨r, s2, by rw [ifS_eq, e, bnd_some, if_neg (by simp), e2], hq, x.trans x2⟩
theorem Ep.asgL {j : Nat} (hf : ∀ st, Ext s st → ∃ st2 n, f σ st = some (.loc n, st2) ∧ Ext st st2 ∧ getL st2 n = some xs) (hq : ∀ (s2 : Sto) (n : Nat), Ext s s2 → getL s2 n = some xs → Ep s2 q (σ.set j (some (.loc n))) Q) : Ep s (seqS (asgS (nmG j) f) q) σ Q := fun st k => by
  obtain ⟨s1, n, e1, x1, g1⟩ := hf st k
  obtain ⟨r, s2, e2, hq2, x2⟩ := hq s1 n (k.trans x1) g1 s1 Ext.refl
  exact ⟨r, s2, by rw [seqS_eq, asgS_eq, e1, bnd_some]; exact e2, hq2, x1.trans x2⟩
theorem ep_for (P : Nat → Sl → Prop) {J : It} {s1 : Sto} (hx : Ext s s1) (hJ : ∀ s3, Ext s1 s3 → items J s3 = some xs)
    (h : ∀ (j : Nat) (σ : Sl) (d : D), xs[j]? = some d → P j σ → ∃ σ1, gg d σ = some σ1 ∧ Ep s p σ1 fun r => match r with
      | .nx σ2 => P (j + 1) σ2
      | .cnt σ2 => P (j + 1) σ2
      | .brk σ2 => Q (.nx σ2)
      | .ret d => Q (.ret d)) (he : ∀ σ, P xs.length σ → Q (.nx σ)) :
    ∀ (m i : Nat) (σ : Sl) (st : Sto), P i σ → Ext s1 st → i ≤ xs.length → xs.length - i < m → ∃ r st2, forV J gg p m i σ st = some (r, st2) ∧ Q r ∧ Ext st st2
  | 0, i, σ, st, hp, k, hi, hm => by omega
  | m + 1, i, σ, st, hp, k, hi, hm => by
    unfold forV
    simp only [hJ st k]
    cases e : xs[i]? with
    | none =>
      have e2 : i = xs.length := by
        have := List.getElem?_eq_none_iff.mp e
        omega
      subst e2
      exact ⟨.nx σ, st, rfl, he σ hp, Ext.refl⟩
    | some d =>
      obtain ⟨σ1, h1, h2⟩ := h i σ d e hp
      obtain ⟨r, st2, e2, h3, x2⟩ := h2 st (hx.trans k)
      have hlt := (List.getElem?_eq_some_iff.mp e).1
      simp only [h1, e2]
      cases r with
      | nx σ2 =>
        obtain ⟨r, st3, e3, p3, x3⟩ := ep_for P hx hJ h he m (i + 1) σ2 st2 h3 (k.trans x2) (by omega) (by omega)
        exact ⟨r, st3, e3, p3, x2.trans x3⟩
      | cnt σ2 =>
        obtain ⟨r, st3, e3, p3, x3⟩ := ep_for P hx hJ h he m (i + 1) σ2 st2 h3 (k.trans x2) (by omega) (by omega)
        exact ⟨r, st3, e3, p3, x2.trans x3⟩
      | brk σ2 => exact ⟨.nx σ2, st2, rfl, h3, x2⟩
      | ret d => exact ⟨.ret d, st2, rfl, h3, x2⟩
theorem Ep.for (P : Nat → Sl → Prop) (hi : Ei s i σ xs) (h0 : P 0 σ)
    (h : ∀ (j : Nat) (σ : Sl) (d : D), xs[j]? = some d → P j σ → ∃ σ1, gg d σ = some σ1 ∧ Ep s p σ1 fun r => match r with
      | .nx σ2 => P (j + 1) σ2
      | .cnt σ2 => P (j + 1) σ2
      | .brk σ2 => Q (.nx σ2)
      | .ret d => Q (.ret d)) (he : ∀ σ, P xs.length σ → Q (.nx σ)) : Ep s (forS i gg p) σ Q := fun st k => by
  obtain ⟨J, s1, e1, x1, hJ⟩ := hi st k
  obtain ⟨r, s2, e2, q2, x2⟩ := ep_for P (k.trans x1) hJ h he (xs.length + 1) 0 σ s1 h0 Ext.refl (Nat.zero_le _) (by omega)
  refine ⟨r, s2, ?_, q2, x1.trans x2⟩
  have e0 : items J s1 = some xs := hJ s1 Ext.refl
  rw [forS_eq, e1, bnd_some]
  simp only [e0]
  exact e2
theorem Ep.run {ns np : Nat} {Q : D → Prop} (hl : ds.length = np) (h : Ep s p (ds.map some ++ List.replicate (ns - np) none) fun r => match r with
    | .nx _ => Q .non
    | .ret d => Q d
    | _ => False) : ∀ st, Ext s st → ∃ d st2, runF ns np p ds st = some (d, st2) ∧ Q d ∧ Ext st st2 := fun st k => by
  obtain ⟨r, s1, e1, q1, x1⟩ := h st k
  cases r with
  | nx σ => exact ⟨_, s1, run_nx hl e1, q1, x1⟩
  | ret d => exact ⟨d, s1, run_ret hl e1, q1, x1⟩
  | brk σ => exact q1.elim
  | cnt σ => exact q1.elim
theorem Rt.runP {ns np : Nat} {d : D} (hl : ds.length = np) (h : Ep s p (ds.map some ++ List.replicate (ns - np) none) fun r => match r with
    | .nx _ => d = .non
    | .ret e => d = e
    | _ => False) : Rt s (runF ns np p) ds d := fun st k => by
  obtain ⟨e, st2, h1, h2, x⟩ := Ep.run (Q := fun e => d = e) hl h st k
  rw [h2]; exact ⟨st2, h1, x⟩
theorem wp_ep {Q : R → Sto → Prop} (h : Ep s p σ Q') {st : Sto} (k : Ext s st) (hq : ∀ r st2, Q' r → Ext st st2 → Q r st2) : Wp (p σ st) Q := by
  obtain ⟨r, st2, e, q, x⟩ := h st k
  exact ⟨r, st2, e, hq r st2 q x⟩
end
end Iv

namespace Iv
open PySem L2
/-! the store in view, the parts by the rules that leave it aside -/
section
variable {st : Sto} {σ σ1 σ2 : Sl} {d : D} {xs ds l : List D} {f : SE} {a : SA} {c : ST} {b : Bool} {p q : SS} {r : R} {Q Q' : R → Sto → Prop} {i n : Nat} {gg : Tg}
theorem wp_esE (h : Es st p σ (.nx σ1)) (k : ∀ st2, Ext st st2 → Wp (q σ1 st2) Q) : Wp (seqS p q σ st) Q := by
  obtain ⟨s2, e, x⟩ := h st Ext.refl
  exact wp_nx e (k s2 x)
theorem wp_asE (h : Ev st f σ d) (k : ∀ st2, Ext st st2 → Wp (q (σ.set i (some d)) st2) Q) : Wp (seqS (asgS (nmG i) f) q σ st) Q := wp_esE (Es.asgN h) k
theorem wp_endE (h : Es st p σ r) (k : ∀ st2, Ext st st2 → Q r st2) : Wp (p σ st) Q := by
  obtain ⟨s2, e, x⟩ := h st Ext.refl
  exact wp_ok e (k s2 x)
theorem wp_retE (h : Ev st f σ d) (k : ∀ st2, Ext st st2 → Q (.ret d) st2) : Wp (retS f σ st) Q := wp_endE (Es.ret h) k
theorem wp_ifE (h : Et st c σ b) (h1 : b = true → ∀ st2, Ext st st2 → Wp (p σ st2) Q) (h2 : b = false → ∀ st2, Ext st st2 → Wp (q σ st2) Q) : Wp (ifS c p q σ st) Q := by
  obtain ⟨s2, e, x⟩ := h st Ext.refl
  exact wp_if e (fun e => h1 e s2 x) (fun e => h2 e s2 x)
/-- something is put behind a list -/
theorem wp_pushE (ho : σ[i]? = some (some (.loc n))) (h : Ev st f σ d) (g : st[n]? = some (.lst l)) (hl : l.length < 1000000) (k : ∀ st2, Ext st st2 → st2[n]? = some (.lst l) → Q (.nx σ) (st2.set n (.lst (l ++ [d])))) : Wp (exS (bmF "list" appendO (varF i) (consF f nilF)) σ st) Q := by
  obtain ⟨s2, e, x⟩ := h st Ext.refl
  have g2 := x.at g
  refine wp_ok (r := .nx σ) (st := s2.set n (.lst (l ++ [d]))) ?_ (k s2 x g2)
  have hl' : l.length < LIM := hl
  have gm : getM s2 n = some l := getM_of g2
  rw [exS_eq, bmF_eq, varF_eq, ho]
  simp only [bnd_some, isTy_list, getL_of g, Option.isSome_some, if_true, consF_eq, e, nilF_eq, appendO_eq, gm, if_pos hl']
theorem wp_forT (P : Nat → Sl → Sto → Prop) (h : Ev st f σ (.tup xs)) (h0 : ∀ s1, Ext st s1 → P 0 σ s1)
    (hb : ∀ (j : Nat) (σ : Sl) (s : Sto) (d : D), xs[j]? = some d → P j σ s → ∃ σ1, gg d σ = some σ1 ∧ Wp (p σ1 s) fun r s => match r with
      | .nx σ2 => P (j + 1) σ2 s
      | .cnt σ2 => P (j + 1) σ2 s
      | .brk σ2 => Q (.nx σ2) s
      | .ret d => Q (.ret d) s)
    (he : ∀ σ s, P xs.length σ s → Q (.nx σ) s) : Wp (forS (anyI f) gg p σ st) Q := by
  obtain ⟨s1, e, x⟩ := h st Ext.refl
  exact wp_for (st1 := s1) P (by rw [anyI_eq, e, bnd_some]) (h0 s1 x) hb he
theorem wp_forR {v : Nat} (P : Nat → Sl → Sto → Prop) (h : Ea st a σ [.int v]) (hv : v ≤ 1000000) (h0 : ∀ s1, Ext st s1 → P 0 σ s1)
    (hb : ∀ (j : Nat) (σ : Sl) (s : Sto), j < v → P j σ s → ∃ σ1, gg (.int (j : Nat)) σ = some σ1 ∧ Wp (p σ1 s) fun r s => match r with
      | .nx σ2 => P (j + 1) σ2 s
      | .cnt σ2 => P (j + 1) σ2 s
      | .brk σ2 => Q (.nx σ2) s
      | .ret d => Q (.ret d) s)
    (he : ∀ σ s, P v σ s → Q (.nx σ) s) : Wp (forS (rngI1 a) gg p σ st) Q := by
  obtain ⟨s1, e, x⟩ := h st Ext.refl
  refine wp_for (xs := rngD 0 v) (st1 := s1) P (rng1_nat e hv) (h0 s1 x) (fun j σ s d hd hp => ?_) (fun σ s hp => he σ s (by rwa [rngD_len] at hp))
  obtain ⟨hj, rfl⟩ := rngD_get hd
  rw [show ((0 : Int) + (j : Nat)) = (j : Nat) by omega]
  exact hb j σ s hj hp
theorem wp_forR2 {v u : Nat} (P : Nat → Sl → Sto → Prop) (h : Ea st a σ [.int v, .int u]) (hv : v ≤ u) (hu : u ≤ 1000000) (h0 : ∀ s1, Ext st s1 → P 0 σ s1)
    (hb : ∀ (j : Nat) (σ : Sl) (s : Sto), j < u - v → P j σ s → ∃ σ1, gg (.int ((v + j : Nat) : Int)) σ = some σ1 ∧ Wp (p σ1 s) fun r s => match r with
      | .nx σ2 => P (j + 1) σ2 s
      | .cnt σ2 => P (j + 1) σ2 s
      | .brk σ2 => Q (.nx σ2) s
      | .ret d => Q (.ret d) s)
    (he : ∀ σ s, P (u - v) σ s → Q (.nx σ) s) : Wp (forS (rngI2 a) gg p σ st) Q := by
  obtain ⟨s1, e, x⟩ := h st Ext.refl
  have e2 := rng2_ok e (by omega) (by omega) (by omega) (by omega)
  have en : ((u : Int) - (v : Int)).toNat = u - v := by omega
  rw [en] at e2
  refine wp_for (xs := rngD v (u - v)) (st1 := s1) P e2 (h0 s1 x) (fun j σ s d hd hp => ?_) (fun σ s hp => he σ s (by rwa [rngD_len] at hp))
  obtain ⟨hj, rfl⟩ := rngD_get hd
  rw [show ((v : Int) + (j : Nat)) = ((v + j : Nat) : Int) by omega]
  exact hb j σ s hj hp
theorem wp_forL2 (P : Nat → Sl → Sto → Prop) (h : Ev st f σ (.loc n)) (g : getL st n = some xs) (h0 : ∀ s1, Ext st s1 → P 0 σ s1) (hg : ∀ j σ s, P j σ s → getL s n = some xs)
    (hb : ∀ (j : Nat) (σ : Sl) (s : Sto) (d : D), xs[j]? = some d → P j σ s → ∃ σ1, gg d σ = some σ1 ∧ Wp (p σ1 s) fun r s => match r with
      | .nx σ2 => P (j + 1) σ2 s
      | .cnt σ2 => P (j + 1) σ2 s
      | .brk σ2 => Q (.nx σ2) s
      | .ret d => Q (.ret d) s)
    (he : ∀ σ s, P xs.length σ s → Q (.nx σ) s) : Wp (forS (anyI f) gg p σ st) Q := by
  obtain ⟨s1, e, x⟩ := h st Ext.refl
  have g1 := x.getL g
  exact wp_forL (n := n) (st1 := s1) P (by rw [anyI_eq, e, bnd_some]; simp only [g1]; rfl) g1 (h0 s1 x) hg hb he
/-- a comprehension, kept under a name -/
theorem wp_asL (h : ∀ st1, Ext st st1 → ∃ st2 n, f σ st1 = some (.loc n, st2) ∧ Ext st1 st2 ∧ getL st2 n = some xs) (k : ∀ st2 n, Ext st st2 → getL st2 n = some xs → Wp (q (σ.set i (some (.loc n))) st2) Q) : Wp (seqS (asgS (nmG i) f) q σ st) Q := by
  obtain ⟨s2, n, e, x, g⟩ := h st Ext.refl
  exact wp_nx (by rw [asgS_eq, e, bnd_some]; rfl) (k s2 n x g)
end
section
variable {s : Sto} {σ : Sl} {n : Nat} {xs : List D} {d : D}
theorem o_ixL {k : Nat} (g : getL s n = some xs) (h : xs[k]? = some d) : O2 s ixO (.loc n) (.int k) d := fun st e => ⟨st, by rw [ixO_loc, e.getL g]; simp only [atI_nat h, Option.map_some], Ext.refl⟩
theorem o_lenL (g : getL s n = some xs) : ON s lenO [.loc n] (.int xs.length) := fun st e => ⟨st, by rw [lenO_loc, e.getL g]; rfl, Ext.refl⟩
theorem o_tupleL (g : getL s n = some xs) : ON s tupleO [.loc n] (.tup xs) := fun st e => ⟨st, by rw [tupleO_loc, e.getL g]; rfl, Ext.refl⟩
theorem o_mod {x y : Int} (h : cPos x y = true) : O2 s modO (.int x) (.int y) (.int (x % y)) := .pure fun _ => by rw [modO_int, if_pos h]
end
end Iv

/-! lists as values: the place is new, what stands there is told -/
namespace Iv
open PySem L2
def Lv (s : Sto) (e : SE) (σ : Sl) (xs : List D) : Prop := ∀ st, Ext s st → ∃ st2 n, e σ st = some (.loc n, st2) ∧ Ext st st2 ∧ st2[n]? = some (.lst xs)
section
variable {s : Sto} {σ σ1 σ2 : Sl} {d x y : D} {xs ys ds : List D} {f g h e : SE} {a : SA} {c c2 : ST} {b b1 b2 : Bool} {p q : SS} {r : R} {lo hi : SO} {l u : Option Int} {i n m : Nat} {φ : Fx}
theorem Lv.get (h : Lv s e σ xs) : ∀ st, Ext s st → ∃ st2 n, e σ st = some (.loc n, st2) ∧ Ext st st2 ∧ getL st2 n = some xs := fun st k => by
  obtain ⟨s2, n, e, x, g⟩ := h st k
  exact ⟨s2, n, e, x, getL_of g⟩
theorem Lv.mono {s2 : Sto} (h : Lv s e σ xs) (k : Ext s s2) : Lv s2 e σ xs := fun st k2 => h st (k.trans k2)
theorem Lv.of (h : Lv s e σ xs) (k : xs = ys) : Lv s e σ ys := k ▸ h
theorem Lv.lst (h : Ea s a σ xs) (hl : xs.length ≤ 1000000) : Lv s (lstF a) σ xs := fun st k => by
  obtain ⟨s1, e1, x1⟩ := h st k
  have hl' : xs.length ≤ LIM := hl
  exact ⟨s1 ++ [.lst xs], s1.length, by rw [lstF_eq, e1, bnd_some, if_pos hl'], x1.trans (Ext.app _), by simp⟩
theorem Lv.var (hv : σ[i]? = some (some (.loc n))) (h : s[n]? = some (.lst xs)) : Lv s (varF i) σ xs := fun st k => ⟨st, n, by rw [varF_eq, hv], Ext.refl, k.at h⟩
theorem Lv.add (hf : Lv s f σ xs) (hg : Lv s g σ ys) (hl : xs.length + ys.length ≤ 1000000) : Lv s (binF addO f g) σ (xs ++ ys) := fun st k => by
  obtain ⟨s1, n1, e1, x1, g1⟩ := hf st k
  obtain ⟨s2, n2, e2, x2, g2⟩ := hg s1 (k.trans x1)
  have hl' : xs.length + ys.length ≤ LIM := hl
  refine ⟨s2 ++ [.lst (xs ++ ys)], s2.length, ?_, (x1.trans x2).trans (Ext.app _), by simp⟩
  rw [binF_eq, e1, bnd_some, e2, bnd_some]
  simp only [addO, getM_of (x2.at g1), getM_of g2, hl', if_true]
theorem Lv.cut (hf : ∀ st, Ext s st → ∃ st2 n, f σ st = some (.loc n, st2) ∧ Ext st st2 ∧ getL st2 n = some xs) (hl : Eo s lo σ l) (hh : Eo s hi σ u) : Lv s (slF cutO f lo hi) σ (cutD xs l u) := fun st k => by
  obtain ⟨s1, n1, e1, x1, g1⟩ := hf st k
  obtain ⟨s2, e2, x2⟩ := hl s1 (k.trans x1)
  obtain ⟨s3, e3, x3⟩ := hh s2 ((k.trans x1).trans x2)
  refine ⟨s3 ++ [.lst (cutD xs l u)], s3.length, ?_, ((x1.trans x2).trans x3).trans (Ext.app _), by simp⟩
  rw [slF_eq, e1, bnd_some, e2, bnd_some, e3, bnd_some, cutO_loc, (x2.trans x3).getL g1]
  rfl
theorem Ev.len_of (h : ∀ st, Ext s st → ∃ st2 n, e σ st = some (.loc n, st2) ∧ Ext st st2 ∧ getL st2 n = some xs) : Ev s (appF lenO (consF e nilF)) σ (.int xs.length) := fun st k => by
  obtain ⟨s1, n, e1, x1, g1⟩ := h st k
  exact ⟨s1, by rw [appF_eq, consF_eq, e1, bnd_some, nilF_eq, bnd_some, bnd_some, lenO_loc, g1]; rfl, x1⟩
/-- a list under a name -/
theorem wp_asLv {Q : R → Sto → Prop} {st : Sto} (h : Lv st f σ xs) (k : ∀ st2 n, Ext st st2 → st2[n]? = some (.lst xs) → Wp (q (σ.set i (some (.loc n))) st2) Q) : Wp (seqS (asgS (nmG i) f) q σ st) Q := by
  obtain ⟨s2, n, e, x, g⟩ := h st Ext.refl
  exact wp_nx (σ1 := σ.set i (some (.loc n))) (st1 := s2) (by rw [asgS_eq, e]; rfl) (k s2 n x g)
theorem cut_lo {xs : List D} {k : Nat} (h : k ≤ xs.length) : cutD xs none (some (k : Int)) = xs.take k := by
  unfold cutD
  rw [HT.sIx_nat, Nat.min_eq_left h]
  simp [HT.sIx]
theorem cut_hi {xs : List D} {k : Nat} (h : k ≤ xs.length) : cutD xs (some (k : Int)) none = xs.drop k := by
  unfold cutD
  rw [HT.sIx_nat, Nat.min_eq_left h]
  simp only [HT.sIx]
  exact List.take_of_length_le (by rw [List.length_drop]; omega)
theorem cut_mid {xs : List D} {k m : Nat} (h : k ≤ m) (h2 : m ≤ xs.length) : cutD xs (some (k : Int)) (some (m : Int)) = (xs.drop k).take (m - k) := by
  unfold cutD
  rw [HT.sIx_nat, HT.sIx_nat, Nat.min_eq_left h2, Nat.min_eq_left (by omega)]
end
end Iv

namespace Iv
open PySem L2
/-! the same for what may raise -/
section
variable {st : Sto} {σ σ1 σ2 : Sl} {d : D} {xs ds l : List D} {f : SE} {a : SA} {c : ST} {b : Bool} {p : SS} {q x y : SX} {r : R} {Q Q' : RX → Sto → Prop} {i n : Nat} {gg : Tg}
theorem wpx_esE (h : Es st p σ (.nx σ1)) (k : ∀ st2, Ext st st2 → WpX (q σ1 st2) Q) : WpX (seqX (liftX p) q σ st) Q := by
  obtain ⟨s2, e, x⟩ := h st Ext.refl
  exact wpx_nx e (k s2 x)
theorem wpx_asE (h : Ev st f σ d) (k : ∀ st2, Ext st st2 → WpX (q (σ.set i (some d)) st2) Q) : WpX (seqX (liftX (asgS (nmG i) f)) q σ st) Q := wpx_esE (Es.asgN h) k
theorem wpx_ifE (h : Et st c σ b) (h1 : b = true → ∀ st2, Ext st st2 → WpX (x σ st2) Q) (h2 : b = false → ∀ st2, Ext st st2 → WpX (y σ st2) Q) : WpX (ifX c x y σ st) Q := by
  obtain ⟨s2, e, x⟩ := h st Ext.refl
  exact wpx_if e (fun e => h1 e s2 x) (fun e => h2 e s2 x)
theorem wpx_raiseE {c : Str} (h : Ea st a σ ds) (hl : ds.length = (flds c).length) (hf : ds.all fmtD = true) (k : ∀ st2, Ext st st2 → Q (.exc σ c ds) st2) : WpX (raiseX true c a σ st) Q := by
  obtain ⟨s2, e, x⟩ := h st Ext.refl
  exact wpx_raise e rfl hl hf (k s2 x)
theorem wpx_retE (h : Ev st f σ d) (k : ∀ st2, Ext st st2 → Q (.ok (.ret d)) st2) : WpX (liftX (retS f) σ st) Q := wpx_lift (wp_retE h k)
end
end Iv

namespace Lw
open PySem L2 Iv
def c_DIGITS : D := .str "0123456789"
def c_LETTERS : D := .str "abcdefghijklmnopqrstuvwxyz"
def c_LONGEST_WORD : D := .int 8
def c_SIGNS : D := .str "+-*=<()"
def c_REGISTERS : D := .tup [.str "a", .str "b", .str "c", .str "d"]
def c_RESERVED : D := .tup [.str "var", .str "lock", .str "cond", .str "of", .str "queue", .str "thread", .str "let", .str "get", .str "put", .str "add", .str "unlock", .str "wait", .str "notify", .str "all", .str "send", .str "take", .str "check", .str "go", .str "if", .str "begin", .str "end", .str "stop", .str "and", .str "or", .str "not"]
def c_INNER : D := .tup [.str "let", .str "get", .str "put", .str "add", .str "check"]
def c_MOST_THINGS : D := .int 6
def c_MOST_INSTRUCTIONS : D := .int 12
def b_tokens (p__token_at : Fx) : SS :=
  (seqS (asgS (nmG 1) (lstF nilF))
  (seqS (asgS (nmG 2) (cstF (.int 0)))
  (seqS (whlS 100000 (cmpT ltO (varF 2) (appF lenO (consF (varF 0) nilF))) (ifS (cmpT (eqO false) (binF ixO (varF 0) (varF 2)) (cstF (.str " "))) (augS 2 iaddO (cstF (.int 1))) (seqS (asgS (nmG 3) (callF p__token_at (consF (varF 0) (consF (varF 2) nilF))))
  (seqS (exS (bmF "list" appendO (varF 1) (consF (varF 3) nilF)))
  (augS 2 iaddO (appF lenO (consF (binF ixO (varF 3) (cstF (.int 1))) nilF)))))))
  (retS (varF 1)))))
def f_tokens (p__token_at : Fx) : Fx := runF 4 1 (b_tokens p__token_at)
def b__token_at (p__run_at : Fx) (p__is_number : Fx) : SS :=
  (seqS (ifS (cmpT (inO false) (binF ixO (varF 0) (varF 1)) (cstF c_DIGITS)) (seqS (asgS (nmG 2) (callF p__run_at (consF (varF 0) (consF (varF 1) (consF (cstF c_DIGITS) nilF)))))
  (retS (tupF (consF (ifF (truF (callF p__is_number (consF (varF 2) nilF))) (cstF (.str "number")) (cstF (.str "bad"))) (consF (varF 2) nilF))))) nxS)
  (seqS (ifS (cmpT (inO false) (binF ixO (varF 0) (varF 1)) (cstF c_LETTERS)) (seqS (asgS (nmG 2) (callF p__run_at (consF (varF 0) (consF (varF 1) (consF (binF addO (cstF c_LETTERS) (cstF c_DIGITS)) nilF)))))
  (retS (tupF (consF (ifF (cmpT leO (appF lenO (consF (varF 2) nilF)) (cstF c_LONGEST_WORD)) (cstF (.str "word")) (cstF (.str "bad"))) (consF (varF 2) nilF))))) nxS)
  (retS (tupF (consF (ifF (cmpT (inO false) (binF ixO (varF 0) (varF 1)) (cstF c_SIGNS)) (cstF (.str "sign")) (cstF (.str "bad"))) (consF (binF ixO (varF 0) (varF 1)) nilF))))))
def f__token_at (p__run_at : Fx) (p__is_number : Fx) : Fx := runF 3 2 (b__token_at p__run_at p__is_number)
def b__run_at  : SS :=
  (seqS (asgS (nmG 3) (varF 1))
  (seqS (whlS 100000 (andT (cmpT ltO (varF 3) (appF lenO (consF (varF 0) nilF))) (cmpT (inO false) (binF ixO (varF 0) (varF 3)) (varF 2))) (augS 3 iaddO (cstF (.int 1))))
  (retS (slF cutO (varF 0) (someO (varF 1)) (someO (varF 3))))))
def f__run_at  : Fx := runF 4 3 (b__run_at )
def b__is_number  : SS :=
  (retS (orF (binF (eqO false) (appF lenO (consF (varF 0) nilF)) (cstF (.int 1))) (andF (binF (eqO false) (appF lenO (consF (varF 0) nilF)) (cstF (.int 2))) (binF (eqO true) (binF ixO (varF 0) (cstF (.int 0))) (cstF (.str "0"))))))
def f__is_number  : Fx := runF 1 1 (b__is_number )
def b_is_name (p_tokens : Fx) : SS :=
  (retS (andF (binF (eqO false) (callF p_tokens (consF (varF 0) nilF)) (lstF (consF (tupF (consF (cstF (.str "word")) (consF (varF 0) nilF))) nilF))) (andF (binF (inO true) (varF 0) (cstF c_REGISTERS)) (binF (inO true) (varF 0) (cstF c_RESERVED)))))
def f_is_name (p_tokens : Fx) : Fx := runF 1 1 (b_is_name p_tokens)
def b__can_be_guarded  : SS :=
  (seqS (asgS (tupG [2, 3]) (varF 1))
  (seqS (asgS (nmG 4) (compF [5] (anyI (slF cutO (varF 0) (someO (varF 2)) (someO (binF addO (varF 3) (cstF (.int 1)))))) (nmG 5) yesT (binF (inO false) (binF ixO (varF 5) (cstF (.int 0))) (cstF c_INNER))))
  (seqS (asgS (nmG 6) (compF [5] (anyI (varF 0)) (nmG 5) (cmpT (eqO false) (binF ixO (varF 5) (cstF (.int 0))) (cstF (.str "go"))) (binF ixO (varF 5) (cstF (.int 1)))))
  (retS (andF (appF (anyO true) (consF (varF 4) nilF)) (notF (appF (anyO false) (consF (compF [7] (anyI (varF 6)) (nmG 7) yesT (chnF ltO leO (varF 2) (varF 7) (varF 3))) nilF))))))))
def f__can_be_guarded  : Fx := runF 8 2 (b__can_be_guarded )
def bx_guarded (p_is_name : Fx) (p__fits : Fx) (p__with_lock : Fx) (p_rz : Bool) : SX :=
  (seqX (liftX (asgS (tupG [3, 4]) (varF 0)))
  (seqX (ifX (orT (notT (truF (callF p_is_name (consF (varF 2) nilF)))) (cmpT (inO false) (varF 2) (compF [5] (anyI (varF 3)) (nmG 5) yesT (binF ixO (varF 5) (cstF (.int 1)))))) (raiseX p_rz "NoSuchPlace" (consF (cstF (.str "name")) nilF)) (liftX nxS))
  (seqX (ifX (cmpT geO (appF lenO (consF (varF 3) nilF)) (cstF c_MOST_THINGS)) (raiseX p_rz "NoSuchPlace" (consF (cstF (.str "shared")) nilF)) (liftX nxS))
  (seqX (ifX (cmpT (eqO true) (appF lenO (consF (varF 1) nilF)) (appF lenO (consF (varF 4) nilF))) (raiseX p_rz "NoSuchPlace" (consF (cstF (.str "guards")) nilF)) (liftX nxS))
  (seqX (ifX (notT (truF (appF (anyO true) (consF (compF [6, 7] (zipI (consF (varF 4) (consF (varF 1) nilF))) (tupG [6, 7]) yesT (callF p__fits (consF (varF 6) (consF (varF 7) nilF)))) nilF)))) (raiseX p_rz "NoSuchPlace" (consF (cstF (.str "guards")) nilF)) (liftX nxS))
  (seqX (liftX (asgS (nmG 8) (compF [6, 7] (zipI (consF (varF 4) (consF (varF 1) nilF))) (tupG [6, 7]) yesT (callF p__with_lock (consF (varF 6) (consF (varF 7) (consF (varF 2) nilF)))))))
  (seqX (ifX (truF (appF (anyO false) (consF (compF [6] (anyI (varF 8)) (nmG 6) yesT (binF gtO (appF lenO (consF (varF 6) nilF)) (cstF c_MOST_INSTRUCTIONS))) nilF))) (raiseX p_rz "NoSuchPlace" (consF (cstF (.str "many")) nilF)) (liftX nxS))
  (liftX (retS (tupF (consF (binF addO (varF 3) (tupF (consF (tupF (consF (cstF (.str "lock")) (consF (varF 2) nilF))) nilF))) (consF (appF tupleO (consF (varF 8) nilF)) nilF))))))))))))
def fx_guarded (p_is_name : Fx) (p__fits : Fx) (p__with_lock : Fx) (p_rz : Bool) : Fy := runX 9 3 (bx_guarded p_is_name p__fits p__with_lock p_rz)
def b__fits (p__can_be_guarded : Fx) : SS :=
  (seqS (ifS (cmpT (isNO false) (varF 1) (cstF .non)) (retS (cstF (.bl true))) nxS)
  (seqS (ifS (orT (notT (truF (unF (isiO "tuple") (varF 1)))) (orT (cmpT (eqO true) (appF lenO (consF (varF 1) nilF)) (cstF (.int 2))) (notT (truF (chn3F leO leO ltO (cstF (.int 0)) (binF ixO (varF 1) (cstF (.int 0))) (binF ixO (varF 1) (cstF (.int 1))) (appF lenO (consF (varF 0) nilF))))))) (retS (cstF (.bl false))) nxS)
  (retS (callF p__can_be_guarded (consF (varF 0) (consF (varF 1) nilF))))))
def f__fits (p__can_be_guarded : Fx) : Fx := runF 2 2 (b__fits p__can_be_guarded)
def b__with_lock (p__led_past : Fx) : SS :=
  (seqS (ifS (cmpT (isNO false) (varF 1) (cstF .non)) (retS (varF 0)) nxS)
  (seqS (asgS (tupG [3, 4]) (varF 1))
  (seqS (asgS (nmG 5) (compF [6] (anyI (varF 0)) (nmG 6) yesT (callF p__led_past (consF (varF 6) (consF (varF 4) nilF)))))
  (seqS (asgS (tupG [7, 8, 9]) (tupF (consF (slF cutO (varF 5) noneO (someO (varF 3))) (consF (slF cutO (varF 5) (someO (varF 3)) (someO (binF addO (varF 4) (cstF (.int 1))))) (consF (slF cutO (varF 5) (someO (binF addO (varF 4) (cstF (.int 1)))) noneO) nilF)))))
  (retS (appF tupleO (consF (binF addO (binF addO (binF addO (binF addO (varF 7) (lstF (consF (tupF (consF (cstF (.str "lock")) (consF (varF 2) nilF))) nilF))) (varF 8)) (lstF (consF (tupF (consF (cstF (.str "unlock")) (consF (varF 2) nilF))) nilF))) (varF 9)) nilF)))))))
def f__with_lock (p__led_past : Fx) : Fx := runF 10 3 (b__with_lock p__led_past)
def b__led_past  : SS :=
  (seqS (ifS (orT (cmpT (eqO true) (binF ixO (varF 0) (cstF (.int 0))) (cstF (.str "go"))) (cmpT leO (binF ixO (varF 0) (cstF (.int 1))) (varF 1))) (retS (varF 0)) nxS)
  (retS (tupF (consF (cstF (.str "go")) (consF (binF addO (binF ixO (varF 0) (cstF (.int 1))) (cstF (.int 2))) (consF (binF ixO (varF 0) (cstF (.int 2))) nilF))))))
def f__led_past  : Fx := runF 2 2 (b__led_past )
def b__law_cell  : SS :=
  (seqS (ifS (cmpT ltO (varF 1) (appF lenO (consF (varF 0) nilF))) (retS (binF ixO (varF 0) (varF 1))) nxS)
  (retS (cstF (.int 0))))
def f__law_cell  : Fx := runF 2 2 (b__law_cell )
def b__law_digits  : SS :=
  (seqS (asgS (nmG 3) (lstF nilF))
  (seqS (ifS (cmpT ltO (varF 0) (cstF (.int 0))) (asgS (nmG 0) (binF subO (unF negO (cstF (.int 1))) (varF 0))) nxS)
  (seqS (ifS (cmpT geO (varF 0) (binF powO (cstF (.int 10)) (cstF (.int 18)))) (forS (rngI1 (consF (cstF (.int 60)) nilF)) (nmG 4) (ifS (andT (cmpT gtO (varF 0) (cstF (.int 0))) (cmpT ltO (appF lenO (consF (varF 3) nilF)) (varF 2))) (seqS (exS (bmF "list" appendO (varF 3) (consF (binF modO (appF intOf (consF (varF 0) nilF)) (cstF (.int 1000))) nilF)))
  (asgS (nmG 0) (binF fdivO (varF 0) (cstF (.int 1000))))) nxS)) (seqS (asgS (nmG 5) (binF modO (appF intOf (consF (binF addO (binF addO (binF mulO (varF 0) (cstF (.int 48271))) (binF mulO (varF 1) (cstF (.int 69621)))) (cstF (.int 11))) nilF)) (cstF (.int 2147483647))))
  (forS (rngI1 (consF (varF 2) nilF)) (nmG 4) (seqS (asgS (nmG 5) (binF modO (appF intOf (consF (binF addO (binF addO (binF mulO (varF 5) (cstF (.int 16807))) (binF mulO (cstF (.int 7)) (varF 4))) (cstF (.int 1))) nilF)) (cstF (.int 2147483647))))
  (exS (bmF "list" appendO (varF 3) (consF (binF modO (appF intOf (consF (binF fdivO (varF 5) (cstF (.int 997))) nilF)) (cstF (.int 1000))) nilF)))))))
  (retS (varF 3)))))
def f__law_digits  : Fx := runF 6 3 (b__law_digits )
def b__law_padded (p__law_digits : Fx) : SS :=
  (seqS (asgS (nmG 2) (callF p__law_digits (consF (varF 0) (consF (varF 1) (consF (cstF (.int 20)) nilF)))))
  (seqS (forS (rngI1 (consF (cstF (.int 20)) nilF)) (nmG 3) (exS (bmF "list" appendO (varF 2) (consF (varF 3) nilF))))
  (retS (varF 2))))
def f__law_padded (p__law_digits : Fx) : Fx := runF 4 2 (b__law_padded p__law_digits)
def b__law_things  : SS :=
  (retS (tupF (consF (tupF (consF (cstF (.str "lock")) (consF (cstF (.str "m")) nilF))) (consF (tupF (consF (cstF (.str "var")) (consF (cstF (.str "x")) (consF (cstF (.int 0)) nilF)))) (consF (tupF (consF (cstF (.str "cond")) (consF (cstF (.str "w")) (consF (cstF (.str "m")) nilF)))) (consF (tupF (consF (cstF (.str "queue")) (consF (cstF (.str "q")) (consF (cstF (.int 1)) nilF)))) (consF (tupF (consF (cstF (.str "var")) (consF (cstF (.str "y")) (consF (cstF (.int 1)) nilF)))) (consF (tupF (consF (cstF (.str "lock")) (consF (cstF (.str "n")) nilF))) nilF))))))))
def f__law_things  : Fx := runF 0 0 (b__law_things )
def b__law_piece  : SS :=
  (seqS (asgS (nmG 2) (tupF (consF (cstF (.str "op")) (consF (cstF (.str "+")) (consF (tupF (consF (cstF (.str "reg")) (consF (cstF (.str "a")) nilF))) (consF (tupF (consF (cstF (.str "num")) (consF (cstF (.int 1)) nilF))) nilF))))))
  (seqS (asgS (nmG 3) (tupF (consF (cstF (.str "op")) (consF (cstF (.str "<")) (consF (tupF (consF (cstF (.str "reg")) (consF (cstF (.str "a")) nilF))) (consF (tupF (consF (cstF (.str "num")) (consF (cstF (.int 2)) nilF))) nilF))))))
  (seqS (asgS (nmG 4) (lstF (consF (lstF (consF (tupF (consF (cstF (.str "get")) (consF (cstF (.str "a")) (consF (cstF (.str "x")) nilF)))) (consF (tupF (consF (cstF (.str "put")) (consF (cstF (.str "x")) (consF (varF 2) nilF)))) nilF))) (consF (lstF (consF (tupF (consF (cstF (.str "add")) (consF (cstF (.str "x")) (consF (tupF (consF (cstF (.str "num")) (consF (cstF (.int 1)) nilF))) nilF)))) nilF)) (consF (lstF (consF (tupF (consF (cstF (.str "put")) (consF (cstF (.str "x")) (consF (tupF (consF (cstF (.str "num")) (consF (cstF (.int 2)) nilF))) nilF)))) nilF)) (consF (lstF (consF (tupF (consF (cstF (.str "get")) (consF (cstF (.str "b")) (consF (cstF (.str "y")) nilF)))) nilF)) (consF (lstF (consF (tupF (consF (cstF (.str "lock")) (consF (cstF (.str "m")) nilF))) (consF (tupF (consF (cstF (.str "add")) (consF (cstF (.str "y")) (consF (tupF (consF (cstF (.str "num")) (consF (cstF (.int 1)) nilF))) nilF)))) (consF (tupF (consF (cstF (.str "unlock")) (consF (cstF (.str "m")) nilF))) nilF)))) (consF (lstF (consF (tupF (consF (cstF (.str "lock")) (consF (cstF (.str "m")) nilF))) (consF (tupF (consF (cstF (.str "lock")) (consF (cstF (.str "n")) nilF))) nilF))) (consF (lstF (consF (tupF (consF (cstF (.str "lock")) (consF (cstF (.str "n")) nilF))) (consF (tupF (consF (cstF (.str "lock")) (consF (cstF (.str "m")) nilF))) nilF))) (consF (lstF (consF (tupF (consF (cstF (.str "lock")) (consF (cstF (.str "m")) nilF))) (consF (tupF (consF (cstF (.str "wait")) (consF (cstF (.str "w")) nilF))) (consF (tupF (consF (cstF (.str "unlock")) (consF (cstF (.str "m")) nilF))) nilF)))) (consF (lstF (consF (tupF (consF (cstF (.str "notify")) (consF (cstF (.str "w")) nilF))) nilF)) (consF (lstF (consF (tupF (consF (cstF (.str "lock")) (consF (cstF (.str "m")) nilF))) (consF (tupF (consF (cstF (.str "notifyall")) (consF (cstF (.str "w")) nilF))) (consF (tupF (consF (cstF (.str "unlock")) (consF (cstF (.str "m")) nilF))) nilF)))) (consF (lstF (consF (tupF (consF (cstF (.str "send")) (consF (cstF (.str "q")) (consF (tupF (consF (cstF (.str "num")) (consF (cstF (.int 3)) nilF))) nilF)))) nilF)) (consF (lstF (consF (tupF (consF (cstF (.str "take")) (consF (cstF (.str "a")) (consF (cstF (.str "q")) nilF)))) nilF)) (consF (lstF (consF (tupF (consF (cstF (.str "get")) (consF (cstF (.str "a")) (consF (cstF (.str "x")) nilF)))) (consF (tupF (consF (cstF (.str "check")) (consF (varF 3) nilF))) nilF))) (consF (lstF (consF (tupF (consF (cstF (.str "begin")) nilF)) (consF (tupF (consF (cstF (.str "get")) (consF (cstF (.str "a")) (consF (cstF (.str "x")) nilF)))) (consF (tupF (consF (cstF (.str "put")) (consF (cstF (.str "y")) (consF (varF 2) nilF)))) (consF (tupF (consF (cstF (.str "end")) nilF)) nilF))))) (consF (lstF (consF (tupF (consF (cstF (.str "unlock")) (consF (cstF (.str "m")) nilF))) nilF)) (consF (lstF (consF (tupF (consF (cstF (.str "add")) (consF (cstF (.str "y")) (consF (tupF (consF (cstF (.str "num")) (consF (cstF (.int 99)) nilF))) nilF)))) nilF)) (consF (lstF (consF (tupF (consF (cstF (.str "let")) (consF (cstF (.str "a")) (consF (varF 2) nilF)))) nilF)) (consF (lstF (consF (tupF (consF (cstF (.str "go")) (consF (binF addO (varF 1) (cstF (.int 2))) (consF (tupF (consF (cstF (.str "reg")) (consF (cstF (.str "a")) nilF))) nilF)))) (consF (tupF (consF (cstF (.str "put")) (consF (cstF (.str "y")) (consF (varF 2) nilF)))) nilF))) (consF (lstF (consF (tupF (consF (cstF (.str "begin")) nilF)) (consF (tupF (consF (cstF (.str "add")) (consF (cstF (.str "x")) (consF (tupF (consF (cstF (.str "num")) (consF (cstF (.int 1)) nilF))) nilF)))) (consF (tupF (consF (cstF (.str "add")) (consF (cstF (.str "y")) (consF (tupF (consF (cstF (.str "num")) (consF (cstF (.int 1)) nilF))) nilF)))) (consF (tupF (consF (cstF (.str "end")) nilF)) nilF))))) (consF (lstF (consF (tupF (consF (cstF (.str "put")) (consF (cstF (.str "y")) (consF (tupF (consF (cstF (.str "reg")) (consF (cstF (.str "a")) nilF))) nilF)))) nilF)) (consF (lstF (consF (tupF (consF (cstF (.str "stop")) nilF)) nilF)) (consF (lstF (consF (tupF (consF (cstF (.str "go")) (consF (cstF (.int 0)) (consF (cstF .non) nilF)))) nilF)) (consF (lstF (consF (tupF (consF (cstF (.str "go")) (consF (cstF (.int 0)) (consF (tupF (consF (cstF (.str "reg")) (consF (cstF (.str "a")) nilF))) nilF)))) nilF)) (consF (lstF (consF (tupF (consF (cstF (.str "go")) (consF (cstF (.int 1)) (consF (tupF (consF (cstF (.str "num")) (consF (cstF (.int 1)) nilF))) nilF)))) (consF (tupF (consF (cstF (.str "get")) (consF (cstF (.str "a")) (consF (cstF (.str "x")) nilF)))) nilF))) nilF))))))))))))))))))))))))))
  (retS (binF ixO (varF 4) (binF modO (appF intOf (consF (varF 0) nilF)) (cstF (.int 24))))))))
def f__law_piece  : Fx := runF 5 2 (b__law_piece )
def b__law_longer (p__law_padded : Fx) (p__law_cell : Fx) (p__law_piece : Fx) (p__law_plain : Fx) : SS :=
  (seqS (asgS (nmG 1) (lstF nilF))
  (seqS (forS (rngI1 (consF (cstF (.int 2)) nilF)) (nmG 2) (seqS (asgS (nmG 3) (callF p__law_padded (consF (callF p__law_cell (consF (varF 0) (consF (varF 2) nilF))) (consF (varF 2) nilF))))
  (seqS (asgS (nmG 4) (lstF nilF))
  (seqS (forS (rngI1 (consF (cstF (.int 8)) nilF)) (nmG 5) (seqS (asgS (nmG 6) (callF p__law_piece (consF (binF ixO (varF 3) (varF 5)) (consF (appF lenO (consF (varF 4) nilF)) nilF))))
  (ifS (cmpT leO (binF addO (appF lenO (consF (varF 4) nilF)) (appF lenO (consF (varF 6) nilF))) (binF ixO (lstF (consF (cstF (.int 7)) (consF (cstF (.int 12)) nilF))) (binF modO (appF intOf (consF (callF p__law_cell (consF (varF 0) (consF (cstF (.int 12)) nilF))) nilF)) (cstF (.int 2))))) (asgS (nmG 4) (binF addO (varF 4) (varF 6))) nxS)))
  (exS (bmF "list" appendO (varF 1) (consF (appF tupleO (consF (varF 4) nilF)) nilF)))))))
  (seqS (asgS (nmG 7) (tupF (consF (tupF (consF (cstF (.str "var")) (consF (cstF (.str "x")) (consF (cstF (.int 0)) nilF)))) (consF (tupF (consF (cstF (.str "lock")) (consF (cstF (.str "m")) nilF))) (consF (tupF (consF (cstF (.str "var")) (consF (cstF (.str "y")) (consF (cstF (.int 1)) nilF)))) (consF (tupF (consF (cstF (.str "lock")) (consF (cstF (.str "n")) nilF))) nilF))))))
  (retS (tupF (consF (varF 7) (consF (appF tupleO (consF (compF [4] (anyI (varF 1)) (nmG 4) yesT (callF p__law_plain (consF (varF 4) nilF))) nilF)) nilF)))))))
def f__law_longer (p__law_padded : Fx) (p__law_cell : Fx) (p__law_piece : Fx) (p__law_plain : Fx) : Fx := runF 8 1 (b__law_longer p__law_padded p__law_cell p__law_piece p__law_plain)
def b__law_plain  : SS :=
  (seqS (asgS (nmG 1) (lstF nilF))
  (seqS (forS (anyI (varF 0)) (nmG 2) (ifS (cmpT (inO false) (binF ixO (varF 2) (cstF (.int 0))) (lstF (consF (cstF (.str "wait")) (consF (cstF (.str "notify")) (consF (cstF (.str "notifyall")) (consF (cstF (.str "send")) (consF (cstF (.str "take")) nilF))))))) (exS (bmF "list" appendO (varF 1) (consF (tupF (consF (cstF (.str "let")) (consF (cstF (.str "d")) (consF (tupF (consF (cstF (.str "num")) (consF (cstF (.int 0)) nilF))) nilF)))) nilF))) (exS (bmF "list" appendO (varF 1) (consF (varF 2) nilF)))))
  (seqS (ifS (cmpT (eqO false) (appF lenO (consF (varF 1) nilF)) (cstF (.int 0))) (exS (bmF "list" appendO (varF 1) (consF (tupF (consF (cstF (.str "get")) (consF (cstF (.str "a")) (consF (cstF (.str "x")) nilF)))) nilF))) nxS)
  (retS (appF tupleO (consF (varF 1) nilF))))))
def f__law_plain  : Fx := runF 3 1 (b__law_plain )
def b__law_guardable  : SS :=
  (seqS (ifS (notT (truF (chn3F leO leO ltO (cstF (.int 0)) (varF 1) (varF 2) (appF lenO (consF (varF 0) nilF))))) (retS (cstF (.bl false))) nxS)
  (seqS (forS (rngI2 (consF (varF 1) (consF (binF addO (varF 2) (cstF (.int 1))) nilF))) (nmG 3) (ifS (cmpT (inO true) (binF ixO (binF ixO (varF 0) (varF 3)) (cstF (.int 0))) (lstF (consF (cstF (.str "let")) (consF (cstF (.str "get")) (consF (cstF (.str "put")) (consF (cstF (.str "add")) (consF (cstF (.str "check")) nilF))))))) (retS (cstF (.bl false))) nxS))
  (seqS (forS (anyI (varF 0)) (nmG 4) (ifS (andT (cmpT (eqO false) (binF ixO (varF 4) (cstF (.int 0))) (cstF (.str "go"))) (truF (chnF ltO leO (varF 1) (binF ixO (varF 4) (cstF (.int 1))) (varF 2)))) (retS (cstF (.bl false))) nxS))
  (retS (cstF (.bl true))))))
def f__law_guardable  : Fx := runF 5 3 (b__law_guardable )
def b__law_place  : SS :=
  (retS (binF addO (binF addO (varF 0) (appF intOf (consF (binF gtO (varF 0) (binF ixO (varF 1) (cstF (.int 0)))) nilF))) (appF intOf (consF (binF gtO (varF 0) (binF ixO (varF 1) (cstF (.int 1)))) nilF))))
def f__law_place  : Fx := runF 2 2 (b__law_place )
def b__law_code (p__law_place : Fx) : SS :=
  (seqS (ifS (cmpT (isNO false) (varF 1) (cstF .non)) (retS (varF 0)) nxS)
  (seqS (asgS (nmG 3) (lstF nilF))
  (seqS (forS (rngI1 (consF (appF lenO (consF (varF 0) nilF)) nilF)) (nmG 4) (seqS (ifS (cmpT (eqO false) (varF 4) (binF ixO (varF 1) (cstF (.int 0)))) (exS (bmF "list" appendO (varF 3) (consF (tupF (consF (cstF (.str "lock")) (consF (varF 2) nilF))) nilF))) nxS)
  (seqS (asgS (nmG 5) (binF ixO (varF 0) (varF 4)))
  (seqS (ifS (cmpT (eqO false) (binF ixO (varF 5) (cstF (.int 0))) (cstF (.str "go"))) (asgS (nmG 5) (tupF (consF (cstF (.str "go")) (consF (callF p__law_place (consF (binF ixO (varF 5) (cstF (.int 1))) (consF (varF 1) nilF))) (consF (binF ixO (varF 5) (cstF (.int 2))) nilF))))) nxS)
  (seqS (exS (bmF "list" appendO (varF 3) (consF (varF 5) nilF)))
  (ifS (cmpT (eqO false) (varF 4) (binF ixO (varF 1) (cstF (.int 1)))) (exS (bmF "list" appendO (varF 3) (consF (tupF (consF (cstF (.str "unlock")) (consF (varF 2) nilF))) nilF))) nxS))))))
  (retS (appF tupleO (consF (varF 3) nilF))))))
def f__law_code (p__law_place : Fx) : Fx := runF 6 3 (b__law_code p__law_place)
def b__law_guards (p__law_cell : Fx) : SS :=
  (seqS (asgS (nmG 2) (lstF nilF))
  (seqS (forS (rngI1 (consF (cstF (.int 2)) nilF)) (nmG 3) (seqS (asgS (nmG 4) (callF p__law_cell (consF (varF 0) (consF (binF addO (cstF (.int 4)) (varF 3)) nilF))))
  (seqS (asgS (nmG 5) (appF lenO (consF (binF ixO (binF ixO (varF 1) (cstF (.int 1))) (varF 3)) nilF)))
  (seqS (asgS (nmG 6) (tupF (consF (binF modO (appF intOf (consF (binF fdivO (varF 4) (cstF (.int 3))) nilF)) (varF 5)) (consF (binF modO (appF intOf (consF (binF fdivO (varF 4) (cstF (.int 30))) nilF)) (binF addO (varF 5) (cstF (.int 1)))) nilF))))
  (ifS (cmpT (eqO false) (binF modO (appF intOf (consF (varF 4) nilF)) (cstF (.int 3))) (cstF (.int 0))) (exS (bmF "list" appendO (varF 2) (consF (cstF .non) nilF))) (exS (bmF "list" appendO (varF 2) (consF (varF 6) nilF))))))))
  (retS (appF tupleO (consF (varF 2) nilF)))))
def f__law_guards (p__law_cell : Fx) : Fx := runF 7 2 (b__law_guards p__law_cell)
def b__law_due (p__law_guardable : Fx) (p__law_code : Fx) : SS :=
  (seqS (ifS (cmpT (inO false) (varF 2) (lstF (consF (cstF (.str "x")) (consF (cstF (.str "m")) (consF (cstF (.str "lock")) (consF (cstF (.str "a")) (consF (cstF (.str "toolongname")) nilF))))))) (retS (tupF (consF (cstF (.str "refused")) (consF (cstF (.str "name")) nilF)))) nxS)
  (seqS (ifS (cmpT geO (appF lenO (consF (binF ixO (varF 0) (cstF (.int 0))) nilF)) (cstF (.int 6))) (retS (tupF (consF (cstF (.str "refused")) (consF (cstF (.str "shared")) nilF)))) nxS)
  (seqS (ifS (cmpT (eqO true) (appF lenO (consF (varF 1) nilF)) (cstF (.int 2))) (retS (tupF (consF (cstF (.str "refused")) (consF (cstF (.str "guards")) nilF)))) nxS)
  (seqS (forS (rngI1 (consF (cstF (.int 2)) nilF)) (nmG 3) (ifS (andT (cmpT (isNO true) (binF ixO (varF 1) (varF 3)) (cstF .non)) (notT (truF (callF p__law_guardable (consF (binF ixO (binF ixO (varF 0) (cstF (.int 1))) (varF 3)) (consF (binF ixO (binF ixO (varF 1) (varF 3)) (cstF (.int 0))) (consF (binF ixO (binF ixO (varF 1) (varF 3)) (cstF (.int 1))) nilF))))))) (retS (tupF (consF (cstF (.str "refused")) (consF (cstF (.str "guards")) nilF)))) nxS))
  (seqS (forS (rngI1 (consF (cstF (.int 2)) nilF)) (nmG 3) (ifS (andT (cmpT (isNO true) (binF ixO (varF 1) (varF 3)) (cstF .non)) (cmpT gtO (appF lenO (consF (binF ixO (binF ixO (varF 0) (cstF (.int 1))) (varF 3)) nilF)) (cstF (.int 10)))) (retS (tupF (consF (cstF (.str "refused")) (consF (cstF (.str "many")) nilF)))) nxS))
  (seqS (asgS (nmG 4) (appF tupleO (consF (compF [3] (rngI1 (consF (cstF (.int 2)) nilF)) (nmG 3) yesT (callF p__law_code (consF (binF ixO (binF ixO (varF 0) (cstF (.int 1))) (varF 3)) (consF (binF ixO (varF 1) (varF 3)) (consF (varF 2) nilF))))) nilF)))
  (retS (tupF (consF (binF addO (binF ixO (varF 0) (cstF (.int 0))) (tupF (consF (tupF (consF (cstF (.str "lock")) (consF (varF 2) nilF))) nilF))) (consF (varF 4) nilF))))))))))
def f__law_due (p__law_guardable : Fx) (p__law_code : Fx) : Fx := runF 5 3 (b__law_due p__law_guardable p__law_code)
def b__law_told (px_guarded : Fy) : SS :=
  (tryS (retX (callX px_guarded (consF (varF 0) (consF (varF 1) (consF (varF 2) nilF))))) "NoSuchPlace" 3 (fun ds => (retS (tupF (consF (cstF (.str "refused")) (consF (fldF 0 ds) nilF))))))
def f__law_told (px_guarded : Fy) : Fx := runF 4 3 (b__law_told px_guarded)
def b_law (p__law_longer : Fx) (p__law_cell : Fx) (p__law_things : Fx) (p__law_guards : Fx) (p__law_told : Fx) (p__law_due : Fx) : SS :=
  (seqS (asgS (nmG 1) (callF p__law_longer (consF (varF 0) nilF)))
  (seqS (ifS (cmpT (eqO false) (binF modO (appF intOf (consF (callF p__law_cell (consF (varF 0) (consF (cstF (.int 6)) nilF))) nilF)) (cstF (.int 7))) (cstF (.int 0))) (asgS (nmG 1) (tupF (consF (callF p__law_things nilF) (consF (binF ixO (varF 1) (cstF (.int 1))) nilF)))) nxS)
  (seqS (asgS (nmG 2) (lstF (consF (cstF (.str "guard")) (consF (cstF (.str "x")) (consF (cstF (.str "m")) (consF (cstF (.str "lock")) (consF (cstF (.str "a")) (consF (cstF (.str "toolongname")) (consF (cstF (.str "z9")) nilF)))))))))
  (seqS (asgS (nmG 3) (callF p__law_guards (consF (varF 0) (consF (varF 1) nilF))))
  (seqS (ifS (cmpT (eqO false) (binF modO (appF intOf (consF (callF p__law_cell (consF (varF 0) (consF (cstF (.int 7)) nilF))) nilF)) (cstF (.int 9))) (cstF (.int 0))) (asgS (nmG 3) (slF cutO (varF 3) noneO (someO (cstF (.int 1))))) nxS)
  (seqS (forS (rngI2 (consF (cstF (.int 8)) (consF (cstF (.int 12)) nilF))) (nmG 4) (seqS (asgS (nmG 5) (binF ixO (varF 2) (binF modO (appF intOf (consF (callF p__law_cell (consF (varF 0) (consF (varF 4) nilF))) nilF)) (cstF (.int 7)))))
  (ifS (cmpT (eqO true) (callF p__law_told (consF (varF 1) (consF (varF 3) (consF (varF 5) nilF)))) (callF p__law_due (consF (varF 1) (consF (varF 3) (consF (varF 5) nilF))))) (retS (cstF (.bl false))) nxS)))
  (retS (cstF (.bl true)))))))))
def f_law (p__law_longer : Fx) (p__law_cell : Fx) (p__law_things : Fx) (p__law_guards : Fx) (p__law_told : Fx) (p__law_due : Fx) : Fx := runF 6 1 (b_law p__law_longer p__law_cell p__law_things p__law_guards p__law_told p__law_due)
def b__law_named  : SS :=
  (seqS (ifS (cmpT (eqO false) (binF ixO (varF 0) (cstF (.int 0))) (cstF (.str "get"))) (retS (binF ixO (varF 0) (cstF (.int 2)))) nxS)
  (seqS (ifS (cmpT (inO false) (binF ixO (varF 0) (cstF (.int 0))) (lstF (consF (cstF (.str "put")) (consF (cstF (.str "add")) nilF)))) (retS (binF ixO (varF 0) (cstF (.int 1)))) nxS)
  (retS (cstF .non))))
def b__law_steps (p__law_cell : Fx) (p__law_padded : Fx) : SS :=
  (seqS (asgS (nmG 1) (lstF nilF))
  (seqS (forS (rngI1 (consF (binF modO (appF intOf (consF (callF p__law_cell (consF (varF 0) (consF (cstF (.int 0)) nilF))) nilF)) (cstF (.int 7))) nilF)) (nmG 2) (seqS (asgS (nmG 3) (callF p__law_padded (consF (callF p__law_cell (consF (varF 0) (consF (binF addO (cstF (.int 1)) (varF 2)) nilF))) (consF (binF addO (cstF (.int 1)) (varF 2)) nilF))))
  (seqS (asgS (nmG 4) (lstF nilF))
  (seqS (forS (rngI1 (consF (binF modO (appF intOf (consF (binF ixO (varF 3) (cstF (.int 1))) nilF)) (cstF (.int 3))) nilF)) (nmG 5) (seqS (asgS (nmG 6) (binF ixO (cstF (.str "xyz")) (binF modO (appF intOf (consF (binF ixO (varF 3) (binF addO (cstF (.int 2)) (varF 5))) nilF)) (cstF (.int 3)))))
  (ifS (cmpT (inO true) (varF 6) (compF [7] (anyI (varF 4)) (nmG 7) yesT (binF ixO (varF 7) (cstF (.int 0))))) (exS (bmF "list" appendO (varF 4) (consF (tupF (consF (varF 6) (consF (binF (eqO false) (binF modO (appF intOf (consF (binF ixO (varF 3) (binF addO (cstF (.int 5)) (varF 5))) nilF)) (cstF (.int 2))) (cstF (.int 0))) nilF))) nilF))) nxS)))
  (exS (bmF "list" appendO (varF 1) (consF (tupF (consF (binF modO (appF intOf (consF (binF ixO (varF 3) (cstF (.int 0))) nilF)) (cstF (.int 3))) (consF (binF modO (appF intOf (consF (binF ixO (varF 3) (cstF (.int 8))) nilF)) (cstF (.int 4))) (consF (appF tupleO (consF (varF 4) nilF)) (consF (binF ixO (lstF (consF (cstF .non) (consF (cstF .non) (consF (cstF (.str "check")) nilF)))) (binF modO (appF intOf (consF (binF ixO (varF 3) (cstF (.int 9))) nilF)) (cstF (.int 3)))) nilF))))) nilF)))))))
  (retS (appF tupleO (consF (varF 1) nilF)))))
def c_NAME_AT : List (Str × D) := [("get", .int 2), ("put", .int 1), ("add", .int 1), ("lock", .int 1), ("unlock", .int 1), ("wait", .int 1), ("notify", .int 1), ("notifyall", .int 1), ("send", .int 1), ("take", .int 2)]
def b_thing_of  : SS :=
  (seqS (asgS (nmG 1) (appF (dgetO c_NAME_AT) (consF (binF ixO (varF 0) (cstF (.int 0))) nilF)))
  (retS (ifF (cmpT (isNO false) (varF 1) (cstF .non)) (cstF .non) (binF ixO (varF 0) (varF 1)))))
def f__law_named  : Fx := runF 1 1 (b__law_named )
def f__law_steps (p__law_cell : Fx) (p__law_padded : Fx) : Fx := runF 8 1 (b__law_steps p__law_cell p__law_padded)
def f_thing_of  : Fx := runF 2 1 (b_thing_of )
local macro_rules | `(tactic| walk_at "Lw.dec") => `(tactic| (simp [ofs_inj, *]; done))
local macro_rules | `(tactic| walk_at "Lw.dec") => `(tactic| (simp only [ofs_inj, decide_true, decide_false, Bool.not_true, Bool.not_false, String.reduceEq, reduceCtorEq, nonD_non, nonD_str, nonD_int, nonD_tup, nonD_bl, Bool.and_true, Bool.and_false, Bool.or_true, Bool.or_false, Bool.false_and, Bool.true_and, Bool.false_or, Bool.true_or]; done))
local macro_rules | `(tactic| walk_at "Lw.dec") => `(tactic| with_reducible rfl)
local macro_rules | `(tactic| walk_at "Lw.dec") => `(tactic| assumption)
local macro_rules | `(tactic| walk_at "Lw.o2") => `(tactic| fail "o2")
local macro_rules | `(tactic| walk_at "Lw.o2") => `(tactic| with_reducible assumption)
local macro_rules | `(tactic| walk_at "Lw.o2") => `(tactic| with_reducible first | exact o_ix0 | exact o_ix1 | exact o_ix2 | exact o_ix3 | exact o_ix4 | exact o_eqss | exact o_ness | exact o_isNn | exact o_isNi | exact o_isNs | exact o_isNt | exact o_notNn | exact o_notNi | exact o_notNs | exact o_notNt | exact o_isN | exact o_notN | exact o_add | exact o_eqii | exact o_neii | exact o_eqis | exact o_neis | exact o_eqns | exact o_nens | exact o_eqni | exact o_neni | exact o_lt | exact o_le | exact o_gt | exact o_ge | exact o_sub | exact o_len | exact o_intb | exact o_inti | exact o_tuple)
local macro_rules | `(tactic| walk_at "Lw.ev1") => `(tactic| first
  | exact Ev.var rfl
  | with_reducible exact Ev.cst
  | with_reducible apply Ev.bin
  | with_reducible apply Ev.call
  | with_reducible exact Ea.nil
  | with_reducible apply Ea.cons
  | with_reducible apply Ev.app
  | ((with_reducible apply Ev.tup); (case ha => walk_at "Lw.ev"); (case hl => first | rfl | decide | (simp; done)))
  | with_reducible apply Ev.un
  | with_reducible apply Ev.sl
  | with_reducible exact Eo.none
  | with_reducible apply Eo.some
  | ((with_reducible apply Ev.ifT); (case hc => walk_at "Lw.ev"); (case hb => walk_at "Lw.dec"))
  | ((with_reducible apply Ev.ifF); (case hc => walk_at "Lw.ev"); (case hb => walk_at "Lw.dec"))
  | with_reducible apply Et.cmp
  | ((with_reducible apply Et.and); case' hg => intro _)
  | ((with_reducible apply Et.or); case' hg => intro _)
  | with_reducible apply Et.not
  | ((with_reducible apply Et.tru); (case hf => walk_at "Lw.ev"); (case ht => exact fun _ => rfl))
  | ((with_reducible apply Ev.and); case' hg => intro _)
  | ((with_reducible apply Ev.or); case' hg => intro _)
  | ((with_reducible apply Es.seqA); (case hf => walk_at "Lw.ev"); (case h => exact rfl))
  | ((with_reducible apply Es.seqA4); (case hf => walk_at "Lw.ev"); (case h => exact rfl))
  | ((with_reducible apply Es.seqA2); (case hf => walk_at "Lw.ev"); (case h => exact rfl))
  | ((with_reducible apply Es.seqRT); (case hc => walk_at "Lw.ev"); (case hb => walk_at "Lw.dec"))
  | ((with_reducible apply Es.seqRF); (case hc => walk_at "Lw.ev"); (case hb => walk_at "Lw.dec"))
  | ((with_reducible apply Es.seqT); (case hc => walk_at "Lw.ev"); (case hb => walk_at "Lw.dec"); (case hp => walk_at "Lw.ev"))
  | ((with_reducible apply Es.seqF); (case hc => walk_at "Lw.ev"); (case hb => walk_at "Lw.dec"); (case hp => walk_at "Lw.ev"))
  | ((with_reducible apply Es.ifT); (case hc => walk_at "Lw.ev"); (case hb => walk_at "Lw.dec"))
  | ((with_reducible apply Es.ifF); (case hc => walk_at "Lw.ev"); (case hb => walk_at "Lw.dec"))
  | with_reducible apply Es.ret
  | with_reducible exact Es.nx
  | with_reducible apply Es.asgN
  | with_reducible apply Es.asg4
  | with_reducible apply Es.asg2
  | walk_at "Lw.o2"
  | exact Es.nx
  | assumption)
local macro_rules | `(tactic| walk_at "Lw.ev") => `(tactic| repeat' walk_at "Lw.ev1")
/-! M1.lean -/
theorem at0 {α : Type} (x : α) (xs : List α) : atI (x :: xs) 0 = some x := atI_nat (j := 0) rfl
theorem at1 {α : Type} (x y : α) (xs : List α) : atI (x :: y :: xs) 1 = some y := atI_nat (j := 1) rfl
theorem at2 {α : Type} (x y z : α) (xs : List α) : atI (x :: y :: z :: xs) 2 = some z := atI_nat (j := 2) rfl
theorem at3 {α : Type} (x y z u : α) (xs : List α) : atI (x :: y :: z :: u :: xs) 3 = some u := atI_nat (j := 3) rfl
theorem cell_ok {st : Sto} {n : Nat} {ns : List Int} (h : getL st n = some (ns.map .int)) (k : Nat) : f__law_cell [.loc n, .int k] st = some (.int (ns.getD k 0), st) := by
  refine run_ret rfl ?_
  by_cases hk : k < ns.length
  · have e : atI (ns.map D.int) (k : Int) = some (.int ns[k]) := atI_nat (by rw [List.getElem?_map, List.getElem?_eq_getElem hk]; rfl)
    have e2 : ns.getD k 0 = ns[k] := by simp [List.getD, List.getElem?_eq_getElem hk]
    rw [e2]
    simp [b__law_cell, seqS_eq, h, hk, e]
  · have e2 : ns.getD k 0 = 0 := by simp [List.getD, List.getElem?_eq_none (Nat.le_of_not_lt hk)]
    rw [e2]
    simp [b__law_cell, seqS_eq, h, hk]
/-- a new list of ints at the end of the store -/
theorem new_get (st : Sto) (xs : List D) : getL (st ++ [.lst xs]) st.length = some xs := getL_of (by simp)
theorem new_getM (st : Sto) (xs : List D) : getM (st ++ [.lst xs]) st.length = some xs := getM_of (by simp)
theorem new_set' (st : Sto) (xs ys : List D) : (st ++ [OB.lst xs]).set st.length (.lst ys) = st ++ [.lst ys] := by simp
theorem push_ok {st : Sto} {xs : List D} {d : D} (h : xs.length < LIM) : appendO (.loc st.length) [d] (st ++ [.lst xs]) = some (.non, st ++ [.lst (xs ++ [d])]) := by
  simp only [appendO_eq, new_getM, h, if_true, new_set']
theorem digits_ok (c k : Int) (m : Nat) (hm : m ≤ 100) (st : Sto) : ∃ ds : List Int, f__law_digits [.int c, .int k, .int (m : Int)] st = some (.loc st.length, st ++ [.lst (ds.map .int)]) ∧ ds.length ≤ 100 := by
  suffices q : ∃ d s, f__law_digits [.int c, .int k, .int (m : Int)] st = some (d, s) ∧ ∃ ds : List Int, d = .loc st.length ∧ s = st ++ [.lst (ds.map .int)] ∧ ds.length ≤ 100 by
    obtain ⟨d, s, e, ds, rfl, rfl, hl⟩ := q
    exact ⟨ds, e, hl⟩
  refine wp_run rfl ?_
  unfold b__law_digits
  refine wp_nx (σ1 := [some (.int c), some (.int k), some (.int (m : Int)), some (.loc st.length), none, none]) (st1 := st ++ [.lst []]) (by simp) ?_
  refine wp_seq (wp_mono (Q := fun r s => ∃ c : Int, r = .nx [some (.int c), some (.int k), some (.int (m : Int)), some (.loc st.length), none, none] ∧ s = st ++ [.lst []]) ?_ ?_)
  · by_cases hc : c < 0
    · exact wp_ok (r := .nx [some (.int (-1 - c)), some (.int k), some (.int (m : Int)), some (.loc st.length), none, none]) (by simp [hc]) ⟨_, rfl, rfl⟩
    · exact wp_ok (r := .nx [some (.int c), some (.int k), some (.int (m : Int)), some (.loc st.length), none, none]) (by simp [hc]) ⟨_, rfl, rfl⟩
  rintro r s ⟨c, rfl, rfl⟩
  refine wp_seq (wp_mono (Q := fun r s => ∃ (x0 x4 x5 : Option D) (ds : List Int), ds.length ≤ 100 ∧ r = .nx [x0, some (.int k), some (.int (m : Int)), some (.loc st.length), x4, x5] ∧ s = st ++ [.lst (ds.map .int)]) ?_ ?_)
  · refine wp_if (t := decide (10 ^ 18 ≤ c)) (st1 := st ++ [.lst []]) (by simp [cPow]) (fun _ => ?_) (fun _ => ?_)
    · refine wp_for (xs := rngD 0 60) (st1 := st ++ [.lst []]) (fun i σ s => ∃ (c : Int) (x4 : Option D) (ds : List Int), ds.length ≤ i ∧ s = st ++ [.lst (ds.map .int)] ∧ σ = [some (.int c), some (.int k), some (.int (m : Int)), some (.loc st.length), x4, none]) (by simp) ⟨c, none, [], by simp, rfl, rfl⟩ ?_ ?_
      · rintro i σ s d hd ⟨c, x4, ds, hl, rfl, rfl⟩
        obtain ⟨hi, rfl⟩ := rngD_get hd
        refine ⟨_, rfl, ?_⟩
        have hL : (ds.map D.int).length < LIM := by rw [List.length_map]; show ds.length < 1000000; omega
        generalize ((0 : Int) + (i : Nat)) = jj
        refine wp_if (t := decide (0 < c) && decide (((ds.map D.int).length : Int) < m)) (st1 := st ++ [.lst (ds.map .int)]) ?_ (fun _ => ?_) (fun _ => wp_skip ⟨c, some (.int jj), ds, by omega, rfl, rfl⟩)
        · by_cases h0 : 0 < c <;> simp [h0, new_get]
        · refine wp_nx (σ1 := [some (.int c), some (.int k), some (.int (m : Int)), some (.loc st.length), some (.int jj), none]) (st1 := st ++ [.lst ((ds ++ [c % 1000]).map .int)]) ?_ ?_
          · have c1 : cPos c 1000 = true := rfl
            simp only [exS_eq, bmF_eq, varF_eq, bnd_some, List.getElem?_cons_zero, List.getElem?_cons_succ, isTy_list, new_get, Option.isSome_some, if_true, consF_eq, nilF_eq, binF_eq, appF_eq, intOf_int, cstF_eq, modO_int, c1, push_ok hL, List.map_append, List.map_cons, List.map_nil, List.set_cons_succ, List.set_cons_zero]
          · exact wp_asg (d := .int (c / 1000)) (st1 := st ++ [.lst ((ds ++ [c % 1000]).map .int)]) (by simp [cDiv]) rfl ⟨_, some (.int jj), _, by simp; omega, rfl, rfl⟩
      · rintro σ s ⟨c, x4, ds, hl, rfl, rfl⟩
        rw [rngD_len] at hl
        exact ⟨_, _, _, ds, by omega, rfl, rfl⟩
    · refine wp_nx (σ1 := [some (.int c), some (.int k), some (.int (m : Int)), some (.loc st.length), none, some (.int ((c * 48271 + k * 69621 + 11) % 2147483647))]) (st1 := st ++ [.lst []]) (by simp [cMul_r, cPos]) ?_
      generalize (c * 48271 + k * 69621 + 11) % 2147483647 = z
      refine wp_for (xs := rngD 0 m) (st1 := st ++ [.lst []]) (fun i σ s => ∃ (z : Int) (x4 : Option D) (ds : List Int), ds.length = i ∧ s = st ++ [.lst (ds.map .int)] ∧ σ = [some (.int c), some (.int k), some (.int (m : Int)), some (.loc st.length), x4, some (.int z)]) (rng1_nat (by simp) (by show m ≤ 1000000; omega)) ⟨z, none, [], rfl, rfl, rfl⟩ ?_ ?_
      · rintro i σ s d hd ⟨z, x4, ds, hl, rfl, rfl⟩
        obtain ⟨hi, rfl⟩ := rngD_get hd
        refine ⟨_, rfl, ?_⟩
        have hL : (ds.map D.int).length < LIM := by rw [List.length_map]; show ds.length < 1000000; omega
        generalize ((0 : Int) + (i : Nat)) = jj
        refine wp_nx (σ1 := [some (.int c), some (.int k), some (.int (m : Int)), some (.loc st.length), some (.int jj), some (.int ((z * 16807 + 7 * jj + 1) % 2147483647))]) (st1 := st ++ [.lst (ds.map .int)]) (by simp [cMul_r, cMul_l, cPos]) ?_
        generalize (z * 16807 + 7 * jj + 1) % 2147483647 = y
        refine wp_ex (d := .non) (st1 := st ++ [.lst ((ds ++ [y / 997 % 1000]).map .int)]) ?_ ⟨y, some (.int jj), ds ++ [y / 997 % 1000], by simp [hl], rfl, rfl⟩
        have c1 : cPos (y / 997) 1000 = true := rfl
        have c2 : cDiv y 997 = true := rfl
        simp only [bmF_eq, varF_eq, bnd_some, List.getElem?_cons_zero, List.getElem?_cons_succ, isTy_list, new_get, Option.isSome_some, if_true, consF_eq, nilF_eq, binF_eq, appF_eq, intOf_int, cstF_eq, fdivO_int, c2, modO_int, c1, push_ok hL, List.map_append, List.map_cons, List.map_nil]
      · rintro σ s ⟨z, x4, ds, hl, rfl, rfl⟩
        rw [rngD_len] at hl
        exact ⟨_, _, _, ds, by omega, rfl, rfl⟩
  · rintro r s ⟨x0, x4, x5, ds, hl, rfl, rfl⟩
    exact wp_ret (d := .loc st.length) (st1 := st ++ [.lst (ds.map .int)]) (by simp) ⟨ds, rfl, rfl, hl⟩
def DigOk (φ : Fx) : Prop := ∀ (c k : Int) (m : Nat), m ≤ 100 → ∀ st : Sto, ∃ ds : List Int, φ [.int c, .int k, .int (m : Int)] st = some (.loc st.length, st ++ [.lst (ds.map .int)]) ∧ ds.length ≤ 100
def PadOk (φ : Fx) : Prop := ∀ (c k : Int) (st : Sto), ∃ ds : List Int, 20 ≤ ds.length ∧ φ [.int c, .int k] st = some (.loc st.length, st ++ [.lst (ds.map .int)])
def CellOk (φ : Fx) : Prop := ∀ (st : Sto) (n : Nat) (ns : List Int), getL st n = some (ns.map .int) → ∀ k : Nat, φ [.loc n, .int k] st = some (.int (ns.getD k 0), st)
theorem padded_ok {φ : Fx} (hφ : DigOk φ) : PadOk (f__law_padded φ) := by
  intro c k st
  suffices q : ∃ d s, f__law_padded φ [.int c, .int k] st = some (d, s) ∧ ∃ ds : List Int, 20 ≤ ds.length ∧ d = .loc st.length ∧ s = st ++ [.lst (ds.map .int)] by
    obtain ⟨d, s, e, ds, hl, rfl, rfl⟩ := q
    exact ⟨ds, hl, e⟩
  obtain ⟨ds, e, hl⟩ := hφ c k 20 (by omega) st
  have e' : φ [.int c, .int k, .int 20] st = some (.loc st.length, st ++ [.lst (ds.map .int)]) := e
  refine wp_run rfl ?_
  unfold b__law_padded
  refine wp_nx (σ1 := [some (.int c), some (.int k), some (.loc st.length), none]) (st1 := st ++ [.lst (ds.map .int)]) (by simp [e']) ?_
  refine wp_seq (wp_for (xs := rngD 0 20) (st1 := st ++ [.lst (ds.map .int)]) (fun i σ s => ∃ (x3 : Option D) (es : List Int), i ≤ es.length ∧ es.length ≤ 100 + i ∧ s = st ++ [.lst (es.map .int)] ∧ σ = [some (.int c), some (.int k), some (.loc st.length), x3]) (by simp) ⟨none, ds, by omega, by omega, rfl, rfl⟩ ?_ ?_)
  · rintro i σ s d hd ⟨x3, es, h1, h2, rfl, rfl⟩
    obtain ⟨hi, rfl⟩ := rngD_get hd
    refine ⟨_, rfl, ?_⟩
    have hL : (es.map D.int).length < LIM := by rw [List.length_map]; show es.length < 1000000; omega
    generalize ((0 : Int) + (i : Nat)) = jj
    refine wp_ex (d := .non) (st1 := st ++ [.lst ((es ++ [jj]).map .int)]) ?_ ⟨some (.int jj), es ++ [jj], by simp; omega, by simp; omega, rfl, rfl⟩
    simp only [bmF_eq, varF_eq, bnd_some, List.getElem?_cons_zero, List.getElem?_cons_succ, isTy_list, new_get, Option.isSome_some, if_true, consF_eq, nilF_eq, push_ok hL, List.map_append, List.map_cons, List.map_nil, List.set_cons_succ, List.set_cons_zero]
  · rintro σ s ⟨x3, es, h1, h2, rfl, rfl⟩
    rw [rngD_len] at h1
    exact wp_ret (d := .loc st.length) (st1 := st ++ [.lst (es.map .int)]) (by simp) ⟨es, h1, rfl, rfl⟩
/-! D1.lean -/
/-! ### data: trees, shared things, instructions, programs -/
inductive Tr where
  | num (n : Int) | reg (i : Nat) | neg (t : Tr) | not (t : Tr) | op (s : Str) (l r : Tr)
def regS : Nat → Str
  | 0 => "a" | 1 => "b" | 2 => "c" | _ => "d"
def Tr.d : Tr → D
  | .num n => .tup [.str "num", .int n]
  | .reg i => .tup [.str "reg", .str (regS i)]
  | .neg t => .tup [.str "neg", t.d]
  | .not t => .tup [.str "not", t.d]
  | .op s l r => .tup [.str "op", .str s, l.d, r.d]
@[simp] theorem nst_tr (t : Tr) (r : List D) : nst (t.d :: r) = false := by cases t <;> simp [nst, strD, Tr.d]
def isSign (s : Str) : Prop := s = "+" ∨ s = "-" ∨ s = "*" ∨ s = "=" ∨ s = "<" ∨ s = "and" ∨ s = "or"
def Tr.wf : Tr → Prop
  | .num n => 0 ≤ n ∧ n ≤ 99
  | .reg i => i < 4
  | .neg t => t.wf
  | .not t => t.wf
  | .op s l r => isSign s ∧ l.wf ∧ r.wf
def Tr.dep : Tr → Nat
  | .num _ => 0
  | .reg _ => 0
  | .neg t => t.dep + 1
  | .not t => t.dep + 1
  | .op _ l r => max l.dep r.dep + 1
inductive Thg where
  | var (x : Str) (v : Int) | lock (x : Str) | cond (x m : Str) | queue (x : Str) (n : Int)
def Thg.name : Thg → Str
  | .var x _ => x
  | .lock x => x
  | .cond x _ => x
  | .queue x _ => x
def Thg.kind : Thg → Str
  | .var _ _ => "var"
  | .lock _ => "lock"
  | .cond _ _ => "cond"
  | .queue _ _ => "queue"
def Thg.d : Thg → D
  | .var x v => .tup [.str "var", .str x, .int v]
  | .lock x => .tup [.str "lock", .str x]
  | .cond x m => .tup [.str "cond", .str x, .str m]
  | .queue x n => .tup [.str "queue", .str x, .int n]
def Thg.lk : Thg → Option Str
  | .lock x => some x
  | _ => none
def locksOf (S : List Thg) : List Str := S.filterMap Thg.lk
def Thg.okIn (S : List Thg) : Thg → Prop
  | .var _ v => -99 ≤ v ∧ v ≤ 99
  | .lock _ => True
  | .cond _ m => m ∈ locksOf S
  | .queue _ n => 1 ≤ n ∧ n ≤ 3
def kindNames (S : List Thg) (k : Str) : List Str := S.filterMap fun t => if t.kind = k then some t.name else none
inductive Ins where
  | leti (r : Nat) (t : Tr) | get (r : Nat) (x : Str) | put (x : Str) (t : Tr) | add (x : Str) (t : Tr) | lock (x : Str) | unlock (x : Str) | wait (x : Str) | notify (x : Str) | notifyall (x : Str)
  | send (x : Str) (t : Tr) | take (r : Nat) (x : Str) | check (t : Tr) | go (n : Nat) (t : Option Tr) | begin_ | end_ | stop
def oTr : Option Tr → D
  | none => .non
  | some t => t.d
def Ins.d : Ins → D
  | .leti r t => .tup [.str "let", .str (regS r), t.d]
  | .get r x => .tup [.str "get", .str (regS r), .str x]
  | .put x t => .tup [.str "put", .str x, t.d]
  | .add x t => .tup [.str "add", .str x, t.d]
  | .lock x => .tup [.str "lock", .str x]
  | .unlock x => .tup [.str "unlock", .str x]
  | .wait x => .tup [.str "wait", .str x]
  | .notify x => .tup [.str "notify", .str x]
  | .notifyall x => .tup [.str "notifyall", .str x]
  | .send x t => .tup [.str "send", .str x, t.d]
  | .take r x => .tup [.str "take", .str (regS r), .str x]
  | .check t => .tup [.str "check", t.d]
  | .go n t => .tup [.str "go", .int (n : Nat), oTr t]
  | .begin_ => .tup [.str "begin"]
  | .end_ => .tup [.str "end"]
  | .stop => .tup [.str "stop"]
def Ins.wf (S : List Thg) (size dep : Nat) : Ins → Prop
  | .leti r t => r < 4 ∧ t.wf ∧ t.dep ≤ dep
  | .get r x => r < 4 ∧ x ∈ kindNames S "var"
  | .put x t => x ∈ kindNames S "var" ∧ t.wf ∧ t.dep ≤ dep
  | .add x t => x ∈ kindNames S "var" ∧ t.wf ∧ t.dep ≤ dep
  | .lock x => x ∈ kindNames S "lock"
  | .unlock x => x ∈ kindNames S "lock"
  | .wait x => x ∈ kindNames S "cond"
  | .notify x => x ∈ kindNames S "cond"
  | .notifyall x => x ∈ kindNames S "cond"
  | .send x t => x ∈ kindNames S "queue" ∧ t.wf ∧ t.dep ≤ dep
  | .take r x => r < 4 ∧ x ∈ kindNames S "queue"
  | .check t => t.wf ∧ t.dep ≤ dep
  | .go n t => n ≤ size ∧ ∀ u, t = some u → u.wf ∧ u.dep ≤ dep
  | .begin_ => True
  | .end_ => True
  | .stop => True
def Ins.plain : Ins → Prop
  | .begin_ => False
  | .end_ => False
  | _ => True
structure Prog where
  S : List Thg
  T : List (List Ins)
def thrD (l : List Ins) : D := .tup (l.map Ins.d)
def Prog.d (p : Prog) : D := .tup [.tup (p.S.map Thg.d), .tup (p.T.map thrD)]
structure Stp where
  th : Int
  pc : Int
  tch : List (Str × Bool)
  word : D
def tD (t : Str × Bool) : D := .tup [.str t.1, .bl t.2]
def Stp.d (s : Stp) : D := .tup [.int s.th, .int s.pc, .tup (s.tch.map tD), s.word]
/-! U1.lean -/
/-! ### data that hang on no place: what Python's == sees of them -/
def Pu (k : Nat) (d : D) (p : PyData) : Prop := (∀ (st : Sto) (n : Nat), py st n d = some p) ∧ p.canLay0 = true ∧ p.depth ≤ k
def Pus (k : Nat) (ds : List D) (ps : List PyData) : Prop := (∀ (st : Sto) (n : Nat), pys st n ds = some ps) ∧ PyData.canLayAll0 ps = true ∧ PyData.depthAll ps ≤ k
theorem pu_mono {k l : Nat} {d : D} {p : PyData} (h : Pu k d p) (hk : k ≤ l) : Pu l d p := ⟨h.1, h.2.1, Nat.le_trans h.2.2 hk⟩
theorem pu_str {x : Str} (h : PyData.strOk x = true) {k : Nat} : Pu k (.str x) (.str x) := ⟨fun st n => by simp only [py], by simpa only [PyData.canLay0] using h, by simp only [PyData.depth]; omega⟩
theorem pu_int {i : Int} {k : Nat} : Pu k (.int i) (.int i) := ⟨fun st n => by simp only [py], by simp only [PyData.canLay0], by simp only [PyData.depth]; omega⟩
theorem pu_non {k : Nat} : Pu k .non .none := ⟨fun st n => by simp only [py], by simp only [PyData.canLay0], by simp only [PyData.depth]; omega⟩
theorem pus_nil {k : Nat} : Pus k [] [] := ⟨fun st n => by simp only [pys], by simp only [PyData.canLayAll0], by simp only [PyData.depthAll]; omega⟩
theorem pus_cons {k : Nat} {d : D} {p : PyData} {ds : List D} {ps : List PyData} (h : Pu k d p) (hs : Pus k ds ps) : Pus k (d :: ds) (p :: ps) := ⟨fun st n => by simp only [pys, h.1, hs.1], by simp only [PyData.canLayAll0, h.2.1, hs.2.1, Bool.and_self], by
  have a := h.2.2
  have b := hs.2.2
  simp only [PyData.depthAll]
  omega⟩
theorem pu_tup {k : Nat} {ds : List D} {ps : List PyData} (h : Pus k ds ps) : Pu (k + 1) (.tup ds) (.tuple ps) := ⟨fun st n => by simp only [py, h.1, Option.map_some], by simpa only [PyData.canLay0] using h.2.1, by
  have a := h.2.2
  simp only [PyData.depth]
  omega⟩
theorem pus_map {α : Type} {k : Nat} {f : α → D} {g : α → PyData} : ∀ {l : List α}, (∀ x ∈ l, Pu k (f x) (g x)) → Pus k (l.map f) (l.map g)
  | [], _ => pus_nil
  | x :: l, h => pus_cons (h x List.mem_cons_self) (pus_map fun y hy => h y (List.mem_cons_of_mem _ hy))
theorem pu_shaped {k : Nat} {d : D} {p : PyData} (h : Pu k d p) (hk : k ≤ 64) : SeqAt.shaped p = true := by
  unfold SeqAt.shaped
  rw [h.2.1, Bool.true_and]
  exact decide_eq_true (Nat.le_trans h.2.2 hk)
/-! ### lists of such data, and lists of such lists -/
theorem py_list {st : Sto} {k n d : Nat} {ds : List D} {ps : List PyData} (h : getL st k = some ds) (p : Pus d ds ps) : py st (n + 1) (.loc k) = some (.list ps) := by simp only [py, h, p.1, Option.map_some]
theorem list_shaped {d : Nat} {ds : List D} {ps : List PyData} (p : Pus d ds ps) (hd : d + 1 ≤ 64) : SeqAt.shaped (.list ps) = true := by
  have a := p.2.2
  unfold SeqAt.shaped
  rw [Bool.and_eq_true]
  refine ⟨?_, decide_eq_true ?_⟩
  · simpa only [PyData.canLay0] using p.2.1
  · simp only [PyData.depth]; omega
theorem nil_shaped : SeqAt.shaped (.list []) = true := by
  unfold SeqAt.shaped
  simp [PyData.canLay0, PyData.canLayAll0, PyData.depth, PyData.depthAll]
theorem py_nil {st : Sto} {k n : Nat} (h : getL st k = some []) : py st (n + 1) (.loc k) = some (.list []) := by simp only [py, h, pys, Option.map_some]
theorem eqv_nil (ps : List PyData) : PyData.eqv (.list ps) (.list []) = decide (ps = []) := by
  cases ps <;> simp [PyData.eqv, PyData.eqvAll]
/-- a list compared with a new empty one -/
theorem eqO_nil {st : Sto} {k : Nat} {ps : List PyData} (h : py (st ++ [.lst []]) 60 (.loc k) = some (.list ps)) (hs : SeqAt.shaped (.list ps) = true) (neg : Bool) : eqO neg (.loc k) (.loc st.length) (st ++ [.lst []]) = some (.bl (decide (ps = []) != neg), st ++ [.lst []]) := by
  have q : py (st ++ [.lst []]) 60 (.loc st.length) = some (.list []) := py_nil (getL_of (by simp))
  unfold eqO
  simp only [eqS, h, q, hs, nil_shaped, and_self, if_true, eqv_nil]
theorem eqO_nilP {st : Sto} {k d : Nat} {ds : List D} {ps : List PyData} (h : getL st k = some ds) (p : Pus d ds ps) (hd : d + 1 ≤ 64) (neg : Bool) : eqO neg (.loc k) (.loc st.length) (st ++ [.lst []]) = some (.bl (decide (ds = []) != neg), st ++ [.lst []]) := by
  rw [eqO_nil (py_list ((Ext.app _).getL h) p) (list_shaped p hd)]
  have e : decide (ps = []) = decide (ds = []) := by
    have l : ∀ (ds : List D) (ps : List PyData), pys st 60 ds = some ps → (ps = [] ↔ ds = []) := fun ds ps h => by
      cases ds with
      | nil => simp only [pys] at h; cases h; simp
      | cons x r =>
        simp only [pys] at h
        split at h
        · cases h; simp
        · cases h
    exact decide_eq_decide.mpr (l ds ps (p.1 st 60))
  rw [e]
/-! M2.lean -/
/-- as the laws k31 to k35 draw them -/
structure Stp.ok (s : Stp) : Prop where
  th0 : 0 ≤ s.th
  th3 : s.th < 3
  pc0 : 0 ≤ s.pc
  pc4 : s.pc < 4
  few : s.tch.length ≤ 2
  nd : (s.tch.map Prod.fst).Nodup
  sg : ∀ t ∈ s.tch, PyData.strOk t.1 = true
  wd : s.word = .non ∨ s.word = .str "check"
def xyz : List Str := ["x", "y", "z"]
theorem xyz_at (i : Int) (st : Sto) : ∃ x : Str, ixO (.str "xyz") (.int (i % 3)) st = some (.str x, st) ∧ PyData.strOk x = true := by
  have h3 : (Str.ofString "xyz").length ≤ LIM := by
    have : (Str.ofString "xyz").length = 3 := by decide +kernel
    rw [this]; decide
  have hc : (Str.ofString "xyz").cps.toList = [120, 121, 122] := by decide +kernel
  have hi : i % 3 = ((i % 3).toNat : Nat) := by omega
  have hk : (i % 3).toNat < 3 := by omega
  generalize (i % 3).toNat = k at hi hk
  rw [hi]
  have ha : ∃ c, atI (Str.ofString "xyz").cps.toList (k : Int) = some c ∧ PyData.strOk ⟨#[c]⟩ = true := by
    rw [hc]
    match k, hk with
    | 0, _ => exact ⟨120, at0 _ _, by decide +kernel⟩
    | 1, _ => exact ⟨121, at1 _ _ _, by decide +kernel⟩
    | 2, _ => exact ⟨122, at2 _ _ _ _, by decide +kernel⟩
  obtain ⟨c, hc2, hc3⟩ := ha
  refine ⟨⟨#[c]⟩, ?_, hc3⟩
  show (if (Str.ofString "xyz").length ≤ LIM then (atI (Str.ofString "xyz").cps.toList (k : Int)).map (fun c => (D.str ⟨#[c]⟩, st)) else none) = _
  rw [if_pos h3, hc2]
  rfl
theorem in_strsM {w : Str} {k : Nat} {l : List Str} {st : Sto} (neg : Bool) (h : getL st k = some (l.map .str)) : inO neg (.str w) (.loc k) st = some (.bl (decide (w ∈ l) != neg), st) := by
  have h1 : (l.map D.str).all scalD = true := by simp [scalD]
  have h2 : inF (.str w) (l.map .str) = decide (w ∈ l) := by
    rw [Bool.eq_iff_iff]
    simp [inF, eqF]
  simp only [inO, h]
  rw [if_pos ⟨rfl, h1⟩, h2]
theorem int_at {ds : List Int} {k : Nat} (h : k < ds.length) : atI (ds.map D.int) (k : Int) = some (.int ds[k]) := atI_nat (by rw [List.getElem?_map, List.getElem?_eq_getElem h]; rfl)
theorem ext_set {st s : Sto} (x : Ext st s) {k : Nat} (hk : st.length ≤ k) (o : OB) : Ext st (s.set k o) := x.set hk
theorem getL_set {s : Sto} {k : Nat} {xs ys : List D} (h : getL s k = some xs) : getL (s.set k (.lst ys)) k = some ys := by
  have hk : k < s.length := by
    unfold getL at h
    cases e : s[k]? with
    | none => rw [e] at h; cases h
    | some o => exact (List.getElem?_eq_some_iff.mp e).1
  exact getL_of (List.getElem?_set_self hk)
theorem getL_set_ne {s : Sto} {k m : Nat} {o : OB} (h : m ≠ k) : getL (s.set k o) m = getL s m := getL_eq (List.getElem?_set_ne (Ne.symm h))
theorem getL_lt {s : Sto} {k : Nat} {xs : List D} (h : getL s k = some xs) : k < s.length := by
  unfold getL at h
  cases e : s[k]? with
  | none => rw [e] at h; cases h
  | some o => exact (List.getElem?_eq_some_iff.mp e).1
theorem names_comp {st : Sto} {n : Nat} {tch : List (Str × Bool)} (hn : getL st n = some (tch.map tD)) (hl : tch.length ≤ 1000) {σ : Sl} (hσ : σ[4]? = some (some (.loc n))) (h7 : 7 < σ.length) :
    ∃ s2, compF [7] (anyI (varF 4)) (nmG 7) yesT (binF ixO (varF 7) (cstF (.int 0))) σ st = some (.loc st.length, s2) ∧ Ext st s2 ∧ getL s2 st.length = some ((tch.map Prod.fst).map .str) := by
  obtain ⟨s2, e2, x2, g2⟩ := comp_ok (vs := [7]) (i := anyI (varF 4)) (g := nmG 7) (e := binF ixO (varF 7) (cstF (.int 0))) (σ := σ) (st := st) (st1 := st) (J := .lst n) (xs := tch.map tD) ((tch.map Prod.fst).map .str)
    (by simp [hσ, hn]) (by rw [List.length_map]; show _ ≤ 1000000; omega) (by simp) (fun s x => x.getL hn)
    (fun i x y hx hy s _ => by
      rw [List.getElem?_map] at hx
      rw [List.getElem?_map, List.getElem?_map] at hy
      cases e : tch[i]? with
      | none => rw [e] at hx; cases hx
      | some t =>
        rw [e] at hx hy
        cases hx
        cases hy
        refine ⟨_, s, rfl, ?_, Ext.refl⟩
        have h8 : 7 < (wipeD σ [7]).length := by rw [wipeD_len]; exact h7
        simp only [binF_eq, varF_eq, List.getElem?_set_self h8, bnd_some, cstF_eq, tD, ixO_tup, at0, Option.map_some])
  exact ⟨s2, e2, x2, getL_of g2⟩
theorem getM_of_getL {s : Sto} {k : Nat} {xs : List D} (h : s[k]? = some (.lst xs)) : getM s k = some xs := getM_of h
theorem steps_ok {cell pad : Fx} (hc : CellOk cell) (hp : PadOk pad) {st : Sto} {n : Nat} {ns : List Int} (h : getL st n = some (ns.map .int)) :
    ∃ S : List Stp, S.length ≤ 6 ∧ (∀ s ∈ S, s.ok) ∧ ∃ st2, f__law_steps cell pad [.loc n] st = some (.tup (S.map Stp.d), st2) ∧ Ext st st2 := by
  suffices q : ∃ d s, f__law_steps cell pad [.loc n] st = some (d, s) ∧ ∃ S : List Stp, S.length ≤ 6 ∧ (∀ s ∈ S, s.ok) ∧ d = .tup (S.map Stp.d) ∧ Ext st s by
    obtain ⟨d, s, e, S, h1, h2, rfl, x⟩ := q
    exact ⟨S, h1, h2, s, e, x⟩
  have c0 := hc (st ++ [.lst []]) n ns (Ext.getL (Ext.app _) h) 0
  generalize ns.getD 0 0 = z0 at c0
  have c0' : cell [.loc n, .int 0] (st ++ [.lst []]) = some (.int z0, st ++ [.lst []]) := c0
  have hs : ∃ k : Nat, z0 % 7 = (k : Int) ∧ k ≤ 6 := ⟨(z0 % 7).toNat, by omega, by omega⟩
  obtain ⟨k, hk, hk6⟩ := hs
  refine wp_run rfl ?_
  unfold b__law_steps
  refine wp_nx (σ1 := [some (.loc n), some (.loc st.length), none, none, none, none, none, none]) (st1 := st ++ [.lst []]) (by simp) ?_
  refine wp_seq (wp_for (xs := rngD 0 k) (st1 := st ++ [.lst []]) (fun i σ s => ∃ (S : List Stp) (x2 x3 x4 x5 x6 x7 : Option D), S.length = i ∧ (∀ s ∈ S, s.ok) ∧ Ext st s ∧ s[st.length]? = some (.lst (S.map Stp.d)) ∧ σ = [some (.loc n), some (.loc st.length), x2, x3, x4, x5, x6, x7])
    (rng1_nat (by simp [c0', cPos, hk]) (by show k ≤ 1000000; omega)) ⟨[], none, none, none, none, none, none, rfl, by simp, Ext.app _, by simp, rfl⟩ ?_ ?_)
  · rintro i σ s d hd ⟨S, x2, x3, x4, x5, x6, x7, hl, hok, hx, hS, rfl⟩
    obtain ⟨hi, rfl⟩ := rngD_get hd
    refine ⟨_, rfl, ?_⟩
    have hlt : st.length < s.length := (List.getElem?_eq_some_iff.mp hS).1
    have c1 := hc s n ns (hx.getL h) (1 + i)
    have e1i : (1 : Int) + (0 + (i : Nat)) = ((1 + i : Nat) : Int) := by omega
    obtain ⟨ds, dl, ed⟩ := hp (ns.getD (1 + i) 0) ((1 + i : Nat) : Int) s
    generalize ((0 : Int) + (i : Nat)) = jj at e1i
    generalize ns.getD (1 + i) 0 = cc at c1 ed
    refine wp_nx (σ1 := [some (.loc n), some (.loc st.length), some (.int jj), some (.loc s.length), x4, x5, x6, x7]) (st1 := s ++ [.lst (ds.map .int)])
      (by simp only [asgS_eq, callF_eq, consF_eq, nilF_eq, varF_eq, binF_eq, cstF_eq, bnd_some, List.getElem?_cons_zero, List.getElem?_cons_succ, List.set_cons_succ, List.set_cons_zero, addO_int, e1i, c1, ed, nmG_eq, Option.map_some]) ?_
    have gd : getL (s ++ [.lst (ds.map .int)]) s.length = some (ds.map .int) := new_get _ _
    have xs1 : Ext st (s ++ [.lst (ds.map .int)]) := hx.trans (Ext.app _)
    have hS1 : (s ++ [.lst (ds.map .int)])[st.length]? = some (.lst (S.map Stp.d)) := (Ext.app _).at hS
    have hlen1 : (s ++ [OB.lst (ds.map .int)]).length = s.length + 1 := by simp
    obtain ⟨s1, es1⟩ : ∃ s1, s1 = s ++ [.lst (ds.map .int)] := ⟨_, rfl⟩
    rw [← es1] at gd xs1 hS1 hlen1 ⊢
    refine wp_nx (σ1 := [some (.loc n), some (.loc st.length), some (.int jj), some (.loc s.length), some (.loc s1.length), x5, x6, x7]) (st1 := s1 ++ [.lst []]) (by simp) ?_
    have i1 : ∀ (t : Sto), Ext s1 t → ∀ j : Nat, j < 20 → ixO (.loc s.length) (.int (j : Nat)) t = some (.int (ds.getD j 0), t) := fun t xt j hj => by
      simp only [ixO_loc, xt.getL gd]
      rw [int_at (by omega)]
      simp [List.getD, List.getElem?_eq_getElem (show j < ds.length by omega)]
    have i1a := i1 (s1 ++ [.lst []]) (Ext.app _) 1 (by omega)
    have hm : ∃ m : Nat, ds.getD 1 0 % 3 = (m : Int) ∧ m ≤ 2 := ⟨(ds.getD 1 0 % 3).toNat, by omega, by omega⟩
    obtain ⟨m, hm, hm2⟩ := hm
    have i1a' : ixO (.loc s.length) (.int 1) (s1 ++ [.lst []]) = some (.int (ds.getD 1 0), s1 ++ [.lst []]) := i1a
    refine wp_seq (wp_for (xs := rngD 0 m) (st1 := s1 ++ [.lst []]) (fun j σ t => ∃ (tch : List (Str × Bool)) (x5 x6 x7 : Option D), tch.length ≤ j ∧ (tch.map Prod.fst).Nodup ∧ (∀ q ∈ tch, PyData.strOk q.1 = true) ∧ Ext s1 t ∧ t[s1.length]? = some (.lst (tch.map tD)) ∧ σ = [some (.loc n), some (.loc st.length), some (.int jj), some (.loc s.length), some (.loc s1.length), x5, x6, x7])
      (rng1_nat (by simp only [consF_eq, nilF_eq, binF_eq, appF_eq, varF_eq, cstF_eq, bnd_some, List.getElem?_cons_zero, List.getElem?_cons_succ, i1a', intOf_int, modO_int, show cPos (ds.getD 1 0) 3 = true from rfl, if_true, hm]) (by show m ≤ 1000000; omega))
      ⟨[], x5, x6, x7, by simp, by simp, by simp, Ext.app _, by simp, rfl⟩ ?_ ?_)
    · rintro j σ t d hd ⟨tch, x5, x6, x7, tl, tn, tsg, xt, ht, rfl⟩
      obtain ⟨hj, rfl⟩ := rngD_get hd
      refine ⟨_, rfl, ?_⟩
      have ej : (0 : Int) + (j : Nat) = (j : Int) := by omega
      rw [ej]
      have e2j : (2 : Int) + (j : Int) = ((2 + j : Nat) : Int) := by omega
      have e5j : (5 : Int) + (j : Int) = ((5 + j : Nat) : Int) := by omega
      have i2 := i1 t xt (2 + j) (by omega)
      obtain ⟨x, ex, xl⟩ := xyz_at (ds.getD (2 + j) 0) t
      refine wp_nx (σ1 := [some (.loc n), some (.loc st.length), some (.int jj), some (.loc s.length), some (.loc s1.length), some (.int (j : Int)), some (.str x), x7]) (st1 := t)
        (by simp only [asgS_eq, consF_eq, nilF_eq, binF_eq, appF_eq, varF_eq, cstF_eq, bnd_some, List.getElem?_cons_zero, List.getElem?_cons_succ, List.set_cons_succ, List.set_cons_zero, addO_int, e2j, i2, intOf_int, modO_int, show cPos (ds.getD (2 + j) 0) 3 = true from rfl, if_true, ex, nmG_eq, Option.map_some]) ?_
      obtain ⟨t2, e2, x2', g2⟩ := names_comp (σ := [some (.loc n), some (.loc st.length), some (.int jj), some (.loc s.length), some (.loc s1.length), some (.int (j : Int)), some (.str x), x7]) (getL_of ht) (by omega) rfl (show 7 < 8 by omega)
      refine wp_if (t := !decide (x ∈ tch.map Prod.fst)) (st1 := t2) ?_ (fun hx => ?_) (fun _ => ?_)
      · simp only [cmpT_eq, binF_eq, varF_eq, bnd_some, List.getElem?_cons_zero, List.getElem?_cons_succ, e2, in_strsM true g2, truth_bl, Option.map_some, Bool.bne_true]
      · have hx' : x ∉ tch.map Prod.fst := by simpa using hx
        have i5 := i1 t2 (xt.trans x2') (5 + j) (by omega)
        have ht2 := x2'.at ht
        have hL : (tch.map tD).length < LIM := by rw [List.length_map]; show tch.length < 1000000; omega
        have l2 : ([.str x, .bl (decide (ds.getD (5 + j) 0 % 2 = 0))] : List D).length ≤ LIM := by show 2 ≤ 1000000; omega
        refine wp_ex (d := .non) (st1 := t2.set s1.length (.lst ((tch ++ [(x, decide (ds.getD (5 + j) 0 % 2 = 0))]).map tD))) ?_ ⟨tch ++ [(x, decide (ds.getD (5 + j) 0 % 2 = 0))], some (.int (j : Int)), some (.str x), x7, by simp; omega, ?_, ?_, (xt.trans x2').set (Nat.le_refl _), ?_, rfl⟩
        · simp only [bmF_eq, varF_eq, bnd_some, List.getElem?_cons_zero, List.getElem?_cons_succ, isTy_list, getL_of ht2, Option.isSome_some, if_true, consF_eq, nilF_eq, tupF_eq, binF_eq, appF_eq, cstF_eq, addO_int, e5j, i5, intOf_int, modO_int, show cPos (ds.getD (5 + j) 0) 2 = true from rfl, eqO_int, l2, appendO_eq, getM_of ht2, hL, List.map_append, List.map_cons, List.map_nil, tD, Bool.bne_false]
        · rw [List.map_append, List.nodup_append]
          refine ⟨tn, by simp, fun a ha b hb => ?_⟩
          have : b = x := by simpa using hb
          rintro rfl
          exact hx' (this ▸ ha)
        · intro q hq
          rcases List.mem_append.mp hq with z | z
          · exact tsg q z
          · rw [List.mem_singleton.mp z]; exact xl
        · exact List.getElem?_set_self (List.getElem?_eq_some_iff.mp ht2).1
      · exact wp_skip ⟨tch, some (.int (j : Int)), some (.str x), x7, by omega, tn, tsg, xt.trans x2', x2'.at ht, rfl⟩
    · rintro σ t ⟨tch, x5, x6, x7, tl, tn, tsg, xt, ht, rfl⟩
      rw [rngD_len] at tl
      have j0 := i1 t xt 0 (by omega)
      have j8 := i1 t xt 8 (by omega)
      have j9 := i1 (t ++ [.lst [.non, .non, .str "check"]]) (xt.trans (Ext.app _)) 9 (by omega)
      generalize ds.getD 0 0 = d0 at j0
      generalize ds.getD 8 0 = d8 at j8
      generalize ds.getD 9 0 = d9 at j9
      have j0' : ixO (.loc s.length) (.int 0) t = some (.int d0, t) := j0
      have j8' : ixO (.loc s.length) (.int 8) t = some (.int d8, t) := j8
      have j9' : ixO (.loc s.length) (.int 9) (t ++ [.lst [.non, .non, .str "check"]]) = some (.int d9, t ++ [.lst [.non, .non, .str "check"]]) := j9
      have hw : ∃ w : D, ixO (.loc t.length) (.int (d9 % 3)) (t ++ [.lst [.non, .non, .str "check"]]) = some (w, t ++ [.lst [.non, .non, .str "check"]]) ∧ (w = .non ∨ w = .str "check") := by
        have h3 : d9 % 3 = 0 ∨ d9 % 3 = 1 ∨ d9 % 3 = 2 := by omega
        rcases h3 with z | z | z <;> rw [z]
        · exact ⟨.non, by simp only [ixO_loc, new_get, at0, Option.map_some], .inl rfl⟩
        · exact ⟨.non, by simp only [ixO_loc, new_get, at1, Option.map_some], .inl rfl⟩
        · exact ⟨.str "check", by simp only [ixO_loc, new_get, at2, Option.map_some], .inr rfl⟩
      obtain ⟨w, ew, okw⟩ := hw
      have hSt : (t ++ [OB.lst [.non, .non, .str "check"]])[st.length]? = some (.lst (S.map Stp.d)) := (xt.trans (Ext.app _)).at hS1
      have hL : (S.map Stp.d).length < LIM := by rw [List.length_map]; show S.length < 1000000; omega
      have l3 : ([.non, .non, .str "check"] : List D).length ≤ LIM := by show 3 ≤ 1000000; omega
      have l4 : ([.int (d0 % 3), .int (d8 % 4), .tup (tch.map tD), w] : List D).length ≤ LIM := by show 4 ≤ 1000000; omega
      refine wp_ex (d := .non) (st1 := (t ++ [OB.lst [.non, .non, .str "check"]]).set st.length (.lst ((S ++ [Stp.mk (d0 % 3) (d8 % 4) tch w]).map Stp.d))) ?_ ⟨S ++ [Stp.mk (d0 % 3) (d8 % 4) tch w], _, _, _, _, _, _, by simp [hl], ?_, ((xs1.trans xt).trans (Ext.app _)).set (Nat.le_refl _), List.getElem?_set_self (List.getElem?_eq_some_iff.mp hSt).1, rfl⟩
      · simp only [bmF_eq, varF_eq, bnd_some, List.getElem?_cons_zero, List.getElem?_cons_succ, isTy_list, getL_of (xt.at hS1), Option.isSome_some, if_true, consF_eq, nilF_eq, tupF_eq, lstF_eq, binF_eq, appF_eq, cstF_eq, j0', j8', j9', intOf_int, modO_int, show cPos d0 3 = true from rfl, show cPos d8 4 = true from rfl, show cPos d9 3 = true from rfl, tupleO_loc, getL_of ht, Option.map_some, l3, l4, ew, appendO_eq, getM_of hSt, hL, List.map_append, List.map_cons, List.map_nil, Stp.d]
      · intro q hq
        rcases List.mem_append.mp hq with z | z
        · exact hok q z
        · rw [List.mem_singleton.mp z]
          exact ⟨show 0 ≤ d0 % 3 by omega, show d0 % 3 < 3 by omega, show 0 ≤ d8 % 4 by omega, show d8 % 4 < 4 by omega, show tch.length ≤ 2 by omega, tn, tsg, okw⟩
  · rintro σ s ⟨S, x2, x3, x4, x5, x6, x7, hl, hok, hx, hS, rfl⟩
    rw [rngD_len] at hl
    exact wp_ret (d := .tup (S.map Stp.d)) (st1 := s) (by simp only [appF_eq, consF_eq, nilF_eq, varF_eq, bnd_some, List.getElem?_cons_zero, List.getElem?_cons_succ, tupleO_loc, getL_of hS, Option.map_some]) ⟨S, by omega, hok, rfl, hx⟩
/-! M8.lean -/
/-! ### pieces of code -/
structure I52 where
  w : Str
  r : List D
def I52.d (i : I52) : D := .tup (.str i.w :: i.r)
def addT : D := .tup [.str "op", .str "+", .tup [.str "reg", .str "a"], .tup [.str "num", .int 1]]
def lessT : D := .tup [.str "op", .str "<", .tup [.str "reg", .str "a"], .tup [.str "num", .int 2]]
def pcs (n : Int) : List (List I52) := [
  [⟨"get", [.str "a", .str "x"]⟩, ⟨"put", [.str "x", addT]⟩],
  [⟨"add", [.str "x", .tup [.str "num", .int 1]]⟩],
  [⟨"put", [.str "x", .tup [.str "num", .int 2]]⟩],
  [⟨"get", [.str "b", .str "y"]⟩],
  [⟨"lock", [.str "m"]⟩, ⟨"add", [.str "y", .tup [.str "num", .int 1]]⟩, ⟨"unlock", [.str "m"]⟩],
  [⟨"lock", [.str "m"]⟩, ⟨"lock", [.str "n"]⟩],
  [⟨"lock", [.str "n"]⟩, ⟨"lock", [.str "m"]⟩],
  [⟨"lock", [.str "m"]⟩, ⟨"wait", [.str "w"]⟩, ⟨"unlock", [.str "m"]⟩],
  [⟨"notify", [.str "w"]⟩],
  [⟨"lock", [.str "m"]⟩, ⟨"notifyall", [.str "w"]⟩, ⟨"unlock", [.str "m"]⟩],
  [⟨"send", [.str "q", .tup [.str "num", .int 3]]⟩],
  [⟨"take", [.str "a", .str "q"]⟩],
  [⟨"get", [.str "a", .str "x"]⟩, ⟨"check", [lessT]⟩],
  [⟨"begin", []⟩, ⟨"get", [.str "a", .str "x"]⟩, ⟨"put", [.str "y", addT]⟩, ⟨"end", []⟩],
  [⟨"unlock", [.str "m"]⟩],
  [⟨"add", [.str "y", .tup [.str "num", .int 99]]⟩],
  [⟨"let", [.str "a", addT]⟩],
  [⟨"go", [.int (n + 2), .tup [.str "reg", .str "a"]]⟩, ⟨"put", [.str "y", addT]⟩],
  [⟨"begin", []⟩, ⟨"add", [.str "x", .tup [.str "num", .int 1]]⟩, ⟨"add", [.str "y", .tup [.str "num", .int 1]]⟩, ⟨"end", []⟩],
  [⟨"put", [.str "y", .tup [.str "reg", .str "a"]]⟩],
  [⟨"stop", []⟩],
  [⟨"go", [.int 0, .non]⟩],
  [⟨"go", [.int 0, .tup [.str "reg", .str "a"]]⟩],
  [⟨"go", [.int 1, .tup [.str "num", .int 1]]⟩, ⟨"get", [.str "a", .str "x"]⟩]]
/-- lists that are made one behind the other -/
def Lits (σ : Sl) (g : SA) (xss : List (List D)) : Prop := ∀ s : Sto, ∃ (s2 : Sto) (ns : List Nat), g σ s = some (ns.map .loc, s2) ∧ Ext s s2 ∧ ns.length = xss.length ∧ ∀ (i n : Nat) (xs : List D), ns[i]? = some n → xss[i]? = some xs → s2[n]? = some (.lst xs) ∧ s.length ≤ n
theorem lits_nil {σ : Sl} : Lits σ nilF [] := fun s => ⟨s, [], rfl, Ext.refl, rfl, fun i n xs h => by simp at h⟩
theorem lits_cons {σ : Sl} {g h : SA} {xs : List D} {xss : List (List D)} (hg : ∀ s, g σ s = some (xs, s)) (hl : xs.length ≤ 1000) (hh : Lits σ h xss) : Lits σ (consF (lstF g) h) (xs :: xss) := fun s => by
  obtain ⟨s2, ns, e, x, hn, hi⟩ := hh (s ++ [.lst xs])
  have x1 : Ext s (s ++ [OB.lst xs]) := Ext.app _
  refine ⟨s2, s.length :: ns, ?_, x1.trans x, by simp [hn], fun i n ys h1 h2 => ?_⟩
  · have hl2 : xs.length ≤ LIM := by show xs.length ≤ 1000000; omega
    simp only [consF_eq, lstF_eq, hg, bnd_some, if_pos hl2, e]
    rfl
  · cases i with
    | zero =>
      cases h1; cases h2
      exact ⟨x.at (by simp), Nat.le_refl _⟩
    | succ i =>
      have h3 := hi i n ys (by simpa using h1) (by simpa using h2)
      have h4 := h3.2
      rw [List.length_append] at h4
      exact ⟨h3.1, by omega⟩
def PieceOk (φ : Fx) : Prop := ∀ (v n : Int) (st : Sto), ∃ (k m : Nat) (l : List I52) (st2 : Sto), φ [.int v, .int n] st = some (.loc m, st2) ∧ Ext st st2 ∧ (pcs n)[k]? = some l ∧ st2[m]? = some (.lst (l.map I52.d)) ∧ st.length ≤ m
theorem piece_pick {v n : Int} {st : Sto} {g : SA} {Q : R → Sto → Prop} (hg : Lits [some (.int v), some (.int n), some addT, some lessT, none] g ((pcs n).map fun l => l.map I52.d))
    (hQ : ∀ (k m : Nat) (l : List I52) (s : Sto), Ext st s → (pcs n)[k]? = some l → s[m]? = some (.lst (l.map I52.d)) → st.length ≤ m → Q (.ret (.loc m)) s) :
    Wp (seqS (asgS (nmG 4) (lstF g)) (retS (binF ixO (varF 4) (binF modO (appF intOf (consF (varF 0) nilF)) (cstF (.int 24))))) [some (.int v), some (.int n), some addT, some lessT, none] st) Q := by
  suffices q : ∃ (k m : Nat) (l : List I52) (s : Sto), seqS (asgS (nmG 4) (lstF g)) (retS (binF ixO (varF 4) (binF modO (appF intOf (consF (varF 0) nilF)) (cstF (.int 24))))) [some (.int v), some (.int n), some addT, some lessT, none] st = some (.ret (.loc m), s) ∧ Ext st s ∧ (pcs n)[k]? = some l ∧ s[m]? = some (.lst (l.map I52.d)) ∧ st.length ≤ m by
    obtain ⟨k, m, l, s, e, h1, h2, h3, h4⟩ := q
    exact ⟨_, _, e, hQ k m l s h1 h2 h3 h4⟩
  obtain ⟨s2, ns, e, x, hn, hi⟩ := hg st
  have hn24 : ns.length = 24 := by rw [hn, List.length_map]; rfl
  have hl : (ns.map D.loc).length ≤ LIM := by rw [List.length_map, hn24]; decide
  have h0 : 0 ≤ v % 24 := Int.emod_nonneg _ (by decide)
  have h1 : v % 24 < 24 := Int.emod_lt_of_pos _ (by decide)
  obtain ⟨k, hk⟩ : ∃ k : Nat, (k : Int) = v % 24 := ⟨(v % 24).toNat, by omega⟩
  have hk24 : k < ns.length := by omega
  have hp : k < (pcs n).length := by show k < 24; omega
  have hni : ns[k]? = some ns[k] := List.getElem?_eq_getElem hk24
  have hpi : (pcs n)[k]? = some (pcs n)[k] := List.getElem?_eq_getElem hp
  obtain ⟨g1, g2⟩ := hi k _ _ hni (by rw [List.getElem?_map, hpi]; rfl)
  refine ⟨k, ns[k], (pcs n)[k], s2 ++ [.lst (ns.map .loc)], ?_, x.trans (Ext.app _), hpi, (Ext.app _).at g1, g2⟩
  rw [seq_nx (σ1 := [some (.int v), some (.int n), some addT, some lessT, some (.loc s2.length)]) (st1 := s2 ++ [.lst (ns.map .loc)]) (by rw [asgS_eq, lstF_eq, e, bnd_some, if_pos hl]; rfl)]
  have i4 : ixO (.loc s2.length) (.int (v % 24)) (s2 ++ [.lst (ns.map .loc)]) = some (.loc ns[k], s2 ++ [.lst (ns.map .loc)]) := by
    rw [ixO_loc, new_get, ← hk]
    dsimp only
    rw [atI_nat (by rw [List.getElem?_map, hni]; rfl)]
    rfl
  have cp : cPos v 24 = true := rfl
  simp only [retS_eq, binF_eq, varF_eq, cstF_eq, appF_eq, consF_eq, nilF_eq, bnd_some, List.getElem?_cons_zero, List.getElem?_cons_succ, intOf_int, modO_int, cp, if_true, i4]

theorem piece_ok : PieceOk f__law_piece := by
  intro v n st
  suffices w : ∃ d s, f__law_piece [.int v, .int n] st = some (d, s) ∧ ∃ (k m : Nat) (l : List I52), d = .loc m ∧ Ext st s ∧ (pcs n)[k]? = some l ∧ s[m]? = some (.lst (l.map I52.d)) ∧ st.length ≤ m by
    obtain ⟨d, s, e, k, m, l, rfl, r⟩ := w
    exact ⟨k, m, l, s, e, r⟩
  refine wp_run rfl ?_
  have hsl : List.map some [D.int v, D.int n] ++ List.replicate (5 - 2) none = [some (.int v), some (.int n), none, none, none] := rfl
  rw [hsl]
  unfold b__law_piece
  refine wp_nx (σ1 := [some (.int v), some (.int n), some addT, none, none]) (st1 := st) rfl ?_
  refine wp_nx (σ1 := [some (.int v), some (.int n), some addT, some lessT, none]) (st1 := st) rfl ?_
  refine piece_pick ?_ (fun k m l s h1 h2 h3 h4 => ⟨k, m, l, rfl, h1, h2, h3, h4⟩)
  show Lits _ _ [_, _, _, _, _, _, _, _, _, _, _, _, _, _, _, _, _, _, _, _, _, _, _, _]
  iterate 17 (refine lits_cons (fun s => rfl) (by decide) ?_)
  refine lits_cons (fun s => by simp [LIM, addT, I52.d]) (by simp) ?_
  iterate 6 (refine lits_cons (fun s => rfl) (by decide) ?_)
  exact lits_nil
/-! M9.lean -/
/-! ### what the instructions of the pieces name -/
def vars52 : List Str := ["x", "y", "zz"]
inductive Gd52 : I52 → Prop
  | get (a x : Str) : Gd52 ⟨"get", [.str a, .str x]⟩
  | put (x : Str) (t : D) : Gd52 ⟨"put", [.str x, t]⟩
  | add (x : Str) (t : D) : Gd52 ⟨"add", [.str x, t]⟩
  | one {w x : Str} (h : w ∈ (["lock", "unlock", "wait", "notify", "notifyall"] : List Str)) (hx : x ∉ vars52) : Gd52 ⟨w, [.str x]⟩
  | send {x : Str} (t : D) (hx : x ∉ vars52) : Gd52 ⟨"send", [.str x, t]⟩
  | take (a : Str) {x : Str} (hx : x ∉ vars52) : Gd52 ⟨"take", [.str a, .str x]⟩
  | check (t : D) : Gd52 ⟨"check", [t]⟩
  | leti (a : Str) (t : D) : Gd52 ⟨"let", [.str a, t]⟩
  | go (k : Int) (t : D) : Gd52 ⟨"go", [.int k, t]⟩
  | bare {w : Str} (h : w ∈ (["begin", "end", "stop"] : List Str)) : Gd52 ⟨w, []⟩
theorem pcs_good (n : Int) : ∀ l ∈ pcs n, ∀ i ∈ l, Gd52 i := by
  intro l hl i hi
  unfold pcs at hl
  have o : ∀ {w x : Str}, decide (w ∈ (["lock", "unlock", "wait", "notify", "notifyall"] : List Str)) = true → decide (x ∈ vars52) = false → Gd52 ⟨w, [.str x]⟩ := fun h hx => .one (of_decide_eq_true h) (of_decide_eq_false hx)
  have q : decide (("q" : Str) ∈ vars52) = false := by decide +kernel
  have b : ∀ {w : Str}, decide (w ∈ (["begin", "end", "stop"] : List Str)) = true → Gd52 ⟨w, []⟩ := fun h => .bare (of_decide_eq_true h)
  simp only [List.mem_cons, List.not_mem_nil, or_false] at hl
  rcases hl with rfl | rfl | rfl | rfl | rfl | rfl | rfl | rfl | rfl | rfl | rfl | rfl | rfl | rfl | rfl | rfl | rfl | rfl | rfl | rfl | rfl | rfl | rfl | rfl <;> (
    simp only [List.mem_cons, List.not_mem_nil, or_false] at hi
    first
      | (rcases hi with rfl | rfl | rfl | rfl <;> first
          | exact .get _ _ | exact .put _ _ | exact .add _ _ | exact .check _ | exact .leti _ _ | exact .go _ _ | exact o (by decide +kernel) (by decide +kernel) | exact b (by decide +kernel))
      | (rcases hi with rfl | rfl | rfl <;> first
          | exact .get _ _ | exact .put _ _ | exact .add _ _ | exact .check _ | exact .leti _ _ | exact .go _ _ | exact o (by decide +kernel) (by decide +kernel) | exact b (by decide +kernel))
      | (rcases hi with rfl | rfl <;> first
          | exact .get _ _ | exact .put _ _ | exact .add _ _ | exact .check _ | exact .leti _ _ | exact .go _ _ | exact o (by decide +kernel) (by decide +kernel) | exact b (by decide +kernel))
      | (subst hi; first
          | exact .get _ _ | exact .put _ _ | exact .add _ _ | exact .check _ | exact .leti _ _ | exact .go _ _ | exact o (by decide +kernel) (by decide +kernel) | exact .send _ (of_decide_eq_false q) | exact .take _ (of_decide_eq_false q) | exact b (by decide +kernel)))
/-- the variable that an instruction names -/
def nm52 (i : I52) : Option Str := if i.w = "get" then (match i.r with
    | [_, .str x] => some x
    | _ => none) else if i.w = "put" ∨ i.w = "add" then (match i.r with
    | .str x :: _ => some x
    | _ => none) else none
def oD : Option Str → D
  | none => .non
  | some x => .str x
/-! M10.lean -/
theorem ix0_i (i : I52) (s : Sto) : ixO i.d (.int 0) s = some (.str i.w, s) := by
  unfold I52.d
  rw [ixO_tup, at0]; rfl
theorem named_get {a x : Str} (st : Sto) : f__law_named [I52.d ⟨"get", [.str a, .str x]⟩] st = some (.str x, st) := by
  refine run_ret rfl ?_
  unfold b__law_named
  refine seq_ret ?_
  have i0 := ix0_i ⟨"get", [.str a, .str x]⟩ st
  have i2 : ixO (I52.d ⟨"get", [.str a, .str x]⟩) (.int 2) st = some (.str x, st) := rfl
  have hsl : List.map some [I52.d ⟨"get", [.str a, .str x]⟩] ++ List.replicate (1 - 1) none = [some (I52.d ⟨"get", [.str a, .str x]⟩)] := rfl
  rw [hsl]
  simp only [ifS_eq, cmpT_eq, binF_eq, varF_eq, cstF_eq, bnd_some, List.getElem?_cons_zero, i0, eqO_str, decide_true, Bool.bne_false, truth_bl, Option.map_some, if_true, retS_eq, i2]
def pa : List Str := ["put", "add"]
theorem ne_in {w k : Str} {l : List Str} (h : w ∈ l) (hk : decide (k ∈ l) = false) : w ≠ k := fun e => of_decide_eq_false hk (e ▸ h)
theorem named_head {i : I52} (h : i.w ≠ "get") (st : Sto) : ∃ b : SS, b = seqS (ifS (cmpT (inO false) (binF ixO (varF 0) (cstF (.int 0))) (lstF (consF (cstF (.str "put")) (consF (cstF (.str "add")) nilF)))) (retS (binF ixO (varF 0) (cstF (.int 1)))) nxS) (retS (cstF .non)) ∧ b__law_named [some i.d] st = b [some i.d] st := by
  refine ⟨_, rfl, ?_⟩
  unfold b__law_named
  have hg : decide (i.w = Str.ofString "get") = false := decide_eq_false h
  rw [seq_nx (σ1 := [some i.d]) (st1 := st) (by simp only [ifS_eq, cmpT_eq, binF_eq, varF_eq, cstF_eq, bnd_some, List.getElem?_cons_zero, ix0_i, eqO_str, hg, Bool.bne_false, truth_bl, Option.map_some, Bool.false_eq_true, if_false]; rfl)]
theorem pa_list (i : I52) (st : Sto) : lstF (consF (cstF (.str "put")) (consF (cstF (.str "add")) nilF)) [some i.d] st = some (.loc st.length, st ++ [.lst (pa.map .str)]) := rfl
theorem named_use {i : I52} {x : Str} {t : D} (h : i.w ≠ "get") (hw : decide (i.w ∈ pa) = true) (hr : i.r = [.str x, t]) (st : Sto) : f__law_named [i.d] st = some (.str x, st ++ [.lst (pa.map .str)]) := by
  refine run_ret rfl ?_
  obtain ⟨b, hb, e⟩ := named_head h st
  show b__law_named [some i.d] st = _
  rw [e, hb]
  have q := in_strsM (w := i.w) (l := pa) (st := st ++ [OB.lst (pa.map .str)]) (k := st.length) false (new_get st _)
  have hl := pa_list i st
  rw [hw, Bool.bne_false] at q
  generalize st ++ [OB.lst (pa.map .str)] = s2 at q hl
  refine seq_ret ?_
  have i1 : ixO i.d (.int 1) s2 = some (.str x, s2) := by
    unfold I52.d
    rw [hr, ixO_tup, at1]; rfl
  rw [ifS_eq, cmpT_eq, binF_eq]
  simp only [binF_eq, varF_eq, cstF_eq, bnd_some, List.getElem?_cons_zero, ix0_i, hl, q, truth_bl, Option.map_some, if_true, retS_eq, i1]
theorem named_no {i : I52} (h : i.w ≠ "get") (hw : decide (i.w ∈ pa) = false) (st : Sto) : f__law_named [i.d] st = some (.non, st ++ [.lst (pa.map .str)]) := by
  refine run_ret rfl ?_
  obtain ⟨b, hb, e⟩ := named_head h st
  show b__law_named [some i.d] st = _
  rw [e, hb]
  have q := in_strsM (w := i.w) (l := pa) (st := st ++ [OB.lst (pa.map .str)]) (k := st.length) false (new_get st _)
  have hl := pa_list i st
  rw [hw, Bool.bne_false] at q
  generalize st ++ [OB.lst (pa.map .str)] = s2 at q hl
  rw [seq_nx (σ1 := [some i.d]) (st1 := s2) (by
    rw [ifS_eq, cmpT_eq, binF_eq]
    simp only [binF_eq, varF_eq, cstF_eq, bnd_some, List.getElem?_cons_zero, ix0_i, hl, q, truth_bl, Option.map_some, Bool.false_eq_true, if_false]; rfl)]
  rfl
theorem named_ok {i : I52} (h : Gd52 i) (st : Sto) : ∃ st2, f__law_named [i.d] st = some (oD (nm52 i), st2) ∧ Ext st st2 := by
  have nn : ∀ {w : Str} {r : List D}, w ≠ "get" → decide (w ∈ pa) = false → nm52 ⟨w, r⟩ = none := fun {w r} h1 h2 => by
    have h3 : ¬ (w = "put" ∨ w = "add") := by
      intro e
      apply of_decide_eq_false h2
      rcases e with rfl | rfl <;> decide +kernel
    show (if w = "get" then _ else _) = _
    rw [if_neg h1]
    show (if w = "put" ∨ w = "add" then _ else _) = _
    rw [if_neg h3]
  have no : ∀ {w : Str} {r : List D}, w ≠ "get" → decide (w ∈ pa) = false → ∃ st2, f__law_named [I52.d ⟨w, r⟩] st = some (oD (nm52 ⟨w, r⟩), st2) ∧ Ext st st2 := fun {w r} h1 h2 => ⟨_, by
    rw [nn h1 h2]
    exact named_no (i := ⟨w, r⟩) h1 h2 st, Ext.app _⟩
  cases h with
  | get a x =>
    refine ⟨st, ?_, Ext.refl⟩
    rw [named_get]
    have : nm52 ⟨"get", [.str a, .str x]⟩ = some x := if_pos rfl
    rw [this]; rfl
  | put x t =>
    refine ⟨st ++ [.lst (pa.map .str)], ?_, Ext.app _⟩
    rw [named_use (i := ⟨"put", [.str x, t]⟩) (by show ("put" : Str) ≠ "get"; decide +kernel) (by show decide (("put" : Str) ∈ pa) = true; decide +kernel) rfl]
    have : nm52 ⟨"put", [.str x, t]⟩ = some x := (if_neg (show ¬ ("put" : Str) = "get" by decide +kernel)).trans (if_pos (.inl rfl))
    rw [this]; rfl
  | add x t =>
    refine ⟨st ++ [.lst (pa.map .str)], ?_, Ext.app _⟩
    rw [named_use (i := ⟨"add", [.str x, t]⟩) (by show ("add" : Str) ≠ "get"; decide +kernel) (by show decide (("add" : Str) ∈ pa) = true; decide +kernel) rfl]
    have : nm52 ⟨"add", [.str x, t]⟩ = some x := (if_neg (show ¬ ("add" : Str) = "get" by decide +kernel)).trans (if_pos (.inr rfl))
    rw [this]; rfl
  | one h hx =>
    refine no (ne_in h (by decide +kernel)) (decide_eq_false fun hm => ?_)
    unfold pa at hm
    simp only [List.mem_cons, List.not_mem_nil, or_false] at hm
    rcases hm with e | e
    · exact ne_in h (by decide +kernel) e
    · exact ne_in h (by decide +kernel) e
  | bare h =>
    refine no (ne_in h (by decide +kernel)) (decide_eq_false fun hm => ?_)
    unfold pa at hm
    simp only [List.mem_cons, List.not_mem_nil, or_false] at hm
    rcases hm with e | e
    · exact ne_in h (by decide +kernel) e
    · exact ne_in h (by decide +kernel) e
  | _ => exact no (by decide +kernel) (by decide +kernel)
/-- the program's thing_of, against a variable's name -/
def th52 (i : I52) : D := match lkp c_NAME_AT i.w with
  | some (.int k) => (atI (.str i.w :: i.r) k).getD .non
  | _ => .non
/-! M11.lean -/
theorem lkp_c (k : Str) (d : D) (l : List (Str × D)) (z : Str) : lkp ((k, d) :: l) z = if k = z then some d else lkp l z := by
  show (if (k == z) = true then some d else lkp l z) = _
  by_cases h : k = z
  · subst h; rw [if_pos (by simp), if_pos rfl]
  · rw [if_neg (by simpa using h), if_neg h]
theorem th_run {i : I52} {d e : D} {st : Sto} (hl : (lkp c_NAME_AT i.w).getD .non = d) (h : (d = .non ∧ e = .non) ∨ ∃ k : Int, d = .int k ∧ ixO i.d (.int k) st = some (e, st)) : f_thing_of [i.d] st = some (e, st) := by
  refine run_ret rfl ?_
  unfold b_thing_of
  have hsl : List.map some [i.d] ++ List.replicate (2 - 1) none = [some i.d, none] := rfl
  rw [hsl, seq_nx (σ1 := [some i.d, some d]) (st1 := st) (by
    simp only [asgS_eq, appF_eq, consF_eq, nilF_eq, binF_eq, varF_eq, cstF_eq, bnd_some, List.getElem?_cons_zero, ix0_i, dgetO_1, hl]; rfl)]
  rcases h with ⟨rfl, rfl⟩ | ⟨k, rfl, hx⟩
  · rfl
  · simp only [retS_eq, ifF_eq, cmpT_eq, binF_eq, varF_eq, cstF_eq, bnd_some, List.getElem?_cons_zero, List.getElem?_cons_succ, isNO_non, show (nonD (D.int k) != false) = false from rfl, truth_bl, Option.map_some, Bool.false_eq_true, if_false, hx]
theorem oth_no {x y : Str} (h : x ∉ vars52) (hy : y ∈ vars52) (s : Sto) : eqO false (.str x) (.str y) s = some (.bl false, s) := by
  have e : decide (x = y) = false := decide_eq_false fun e => h (e ▸ hy)
  simp only [eqO_str, e, Bool.bne_false]
theorem non_no {y : Str} (s : Sto) : eqO false .non (.str y) s = some (.bl false, s) := by
  rfl
theorem thing_ok {i : I52} (h : Gd52 i) (st : Sto) : ∃ d : D, f_thing_of [i.d] st = some (d, st) ∧ ∀ y ∈ vars52, ∀ s, eqO false d (.str y) s = some (.bl (decide (nm52 i = some y)), s) := by
  have nn : ∀ {w : Str} {r : List D}, w ≠ "get" → w ≠ "put" → w ≠ "add" → nm52 ⟨w, r⟩ = none := fun {w r} h1 h2 h3 => by
    show (if w = "get" then _ else _) = _
    rw [if_neg h1]
    show (if w = "put" ∨ w = "add" then _ else _) = _
    rw [if_neg (by rintro (e | e); exact h2 e; exact h3 e)]
  have su : ∀ (x y : Str) (s : Sto), eqO false (.str x) (.str y) s = some (.bl (decide (some x = some y)), s) := fun x y s => by
    simp only [eqO_str, Bool.bne_false, Option.some.injEq]
  have no : ∀ {i : I52} {d : D}, nm52 i = none → (∀ y ∈ vars52, ∀ s, eqO false d (.str y) s = some (.bl false, s)) → ∀ y ∈ vars52, ∀ s, eqO false d (.str y) s = some (.bl (decide (nm52 i = some y)), s) := fun {i d} h1 h2 y hy s => by
    rw [h2 y hy s, h1]; rfl
  cases h with
  | get a x =>
    refine ⟨.str x, th_run (d := .int 2) (by simp [c_NAME_AT, lkp_c, lkp, ofs_inj]) (.inr ⟨2, rfl, rfl⟩), fun y hy s => ?_⟩
    rw [show nm52 ⟨"get", [.str a, .str x]⟩ = some x from if_pos rfl]
    exact su x y s
  | put x t =>
    refine ⟨.str x, th_run (d := .int 1) (by simp [c_NAME_AT, lkp_c, lkp, ofs_inj]) (.inr ⟨1, rfl, rfl⟩), fun y hy s => ?_⟩
    rw [show nm52 ⟨"put", [.str x, t]⟩ = some x from (if_neg (show ¬ ("put" : Str) = "get" by decide +kernel)).trans (if_pos (.inl rfl))]
    exact su x y s
  | add x t =>
    refine ⟨.str x, th_run (d := .int 1) (by simp [c_NAME_AT, lkp_c, lkp, ofs_inj]) (.inr ⟨1, rfl, rfl⟩), fun y hy s => ?_⟩
    rw [show nm52 ⟨"add", [.str x, t]⟩ = some x from (if_neg (show ¬ ("add" : Str) = "get" by decide +kernel)).trans (if_pos (.inr rfl))]
    exact su x y s
  | @one w x h hx =>
    refine ⟨.str x, th_run (d := .int 1) ?_ (.inr ⟨1, rfl, rfl⟩), no (nn (ne_in h (by decide +kernel)) (ne_in h (by decide +kernel)) (ne_in h (by decide +kernel))) fun y hy s => oth_no hx hy s⟩
    simp only [List.mem_cons, List.not_mem_nil, or_false] at h
    rcases h with rfl | rfl | rfl | rfl | rfl <;> simp [c_NAME_AT, lkp_c, lkp, ofs_inj]
  | @send x t hx => exact ⟨.str x, th_run (d := .int 1) (by simp [c_NAME_AT, lkp_c, lkp, ofs_inj]) (.inr ⟨1, rfl, rfl⟩), no (nn (by decide +kernel) (by decide +kernel) (by decide +kernel)) fun y hy s => oth_no hx hy s⟩
  | @take a x hx => exact ⟨.str x, th_run (d := .int 2) (by simp [c_NAME_AT, lkp_c, lkp, ofs_inj]) (.inr ⟨2, rfl, rfl⟩), no (nn (by decide +kernel) (by decide +kernel) (by decide +kernel)) fun y hy s => oth_no hx hy s⟩
  | check t => exact ⟨.non, th_run (d := .non) (by simp [c_NAME_AT, lkp_c, lkp, ofs_inj]) (.inl ⟨rfl, rfl⟩), no (nn (by decide +kernel) (by decide +kernel) (by decide +kernel)) fun y hy s => non_no s⟩
  | leti a t => exact ⟨.non, th_run (d := .non) (by simp [c_NAME_AT, lkp_c, lkp, ofs_inj]) (.inl ⟨rfl, rfl⟩), no (nn (by decide +kernel) (by decide +kernel) (by decide +kernel)) fun y hy s => non_no s⟩
  | go k t => exact ⟨.non, th_run (d := .non) (by simp [c_NAME_AT, lkp_c, lkp, ofs_inj]) (.inl ⟨rfl, rfl⟩), no (nn (by decide +kernel) (by decide +kernel) (by decide +kernel)) fun y hy s => non_no s⟩
  | @bare w h =>
    refine ⟨.non, th_run (d := .non) ?_ (.inl ⟨rfl, rfl⟩), no (nn (ne_in h (by decide +kernel)) (ne_in h (by decide +kernel)) (ne_in h (by decide +kernel))) fun y hy s => non_no s⟩
    simp only [List.mem_cons, List.not_mem_nil, or_false] at h
    rcases h with rfl | rfl | rfl <;> simp [c_NAME_AT, lkp_c, lkp, ofs_inj]
/-! M12.lean -/
/-! ### what can be guarded -/
def innL : List Str := ["let", "get", "put", "add", "check"]
def inn (i : I52) : Bool := decide (i.w ∈ innL)
def tgt (i : I52) : Option Int := if i.w = "go" then (match i.r with
  | .int k :: _ => some k
  | _ => none) else none
def hit (f l : Nat) (k : Int) : Bool := decide ((f : Int) < k) && decide (k ≤ (l : Int))
def leads (c : List I52) (f l : Nat) : Bool := (c.filterMap tgt).any (hit f l)
def grd (c : List I52) (f l : Nat) : Bool := ((c.drop f).take (l + 1 - f)).all inn && !leads c f l
def ph52 : D → Option D := fun d => match d with
  | .tup (.str w :: .int k :: _) => if w = "go" then some (.int k) else none
  | _ => none
theorem ph_tgt (i : I52) : ph52 i.d = (tgt i).map .int := by
  obtain ⟨w, r⟩ := i
  unfold tgt
  cases r with
  | nil => by_cases h : w = "go" <;> simp [h, ph52, I52.d]
  | cons a r =>
    cases a with
    | int k =>
      show (if w = "go" then some (D.int k) else none) = (if w = "go" then some k else none).map D.int
      by_cases h : w = "go"
      · rw [if_pos h, if_pos h]; rfl
      · rw [if_neg h, if_neg h]; rfl
    | _ =>
      show none = (if w = "go" then none else none : Option Int).map D.int
      by_cases h : w = "go"
      · rw [if_pos h]; rfl
      · rw [if_neg h]; rfl
theorem ph_map : ∀ c : List I52, (c.map I52.d).filterMap ph52 = (c.filterMap tgt).map .int
  | [] => rfl
  | i :: c => by
    have ih := ph_map c
    rw [List.map_cons, List.filterMap_cons, List.filterMap_cons, ph_tgt]
    cases h : tgt i with
    | none => simpa using ih
    | some k => simp [ih]
theorem go_shape {i : I52} (h : Gd52 i) (hw : i.w = "go") : ∃ k t, i = ⟨"go", [.int k, t]⟩ := by
  cases h with
  | go k t => exact ⟨k, t, rfl⟩
  | one h _ => exact absurd hw (ne_in h (by decide +kernel))
  | bare h => exact absurd hw (ne_in h (by decide +kernel))
  | get a x => exact absurd (show ("get" : Str) = "go" from hw) (by decide +kernel)
  | put x t => exact absurd (show ("put" : Str) = "go" from hw) (by decide +kernel)
  | add x t => exact absurd (show ("add" : Str) = "go" from hw) (by decide +kernel)
  | send t _ => exact absurd (show ("send" : Str) = "go" from hw) (by decide +kernel)
  | take a _ => exact absurd (show ("take" : Str) = "go" from hw) (by decide +kernel)
  | check t => exact absurd (show ("check" : Str) = "go" from hw) (by decide +kernel)
  | leti a t => exact absurd (show ("let" : Str) = "go" from hw) (by decide +kernel)
theorem blsD_map : ∀ l : List Bool, blsD (l.map D.bl) = some l
  | [] => rfl
  | b :: l => by
    show (blsD (l.map D.bl)).map (fun bs => b :: bs) = _
    rw [blsD_map l]; rfl
theorem any_ok {all : Bool} {n : Nat} {s : Sto} {l : List Bool} (g : getL s n = some (l.map .bl)) : anyO all [.loc n] s = some (.bl (if all then l.all id else l.any id), s) := by
  unfold anyO
  simp only [g, blsD_map, Option.map_some]
theorem eqF_strM (x y : Str) : eqF (.str x) (.str y) = decide (x = y) := by
  by_cases h : x = y <;> simp [eqF, h]
theorem inF_l (w : Str) : ∀ l : List Str, inF (.str w) (l.map .str) = decide (w ∈ l)
  | [] => rfl
  | x :: l => by
    have ih := inF_l w l
    unfold inF at ih ⊢
    rw [List.map_cons, List.any_cons, ih, eqF_strM]
    by_cases h : x = w
    · subst h; simp
    · have h2 : ¬ w = x := fun e => h e.symm
      simp [h, h2]
theorem in_inner (i : I52) (s : Sto) : inO false (.str i.w) c_INNER s = some (.bl (inn i), s) := by
  have e : inF (.str i.w) (innL.map .str) = inn i := inF_l i.w innL
  rw [← e]
  show some (D.bl (inF (.str i.w) (innL.map .str) != false), s) = _
  rw [Bool.bne_false]
theorem nst_code (l : List I52) : nst (l.map I52.d) = false := by
  cases l with
  | nil => rfl
  | cons i l => rfl
theorem cut_code {c : List I52} {f l : Nat} (h1 : f ≤ l) (h2 : l < c.length) (s : Sto) : cutO (.tup (c.map I52.d)) (some (f : Int)) (some ((l : Int) + 1)) s = some (.tup (((c.drop f).take (l + 1 - f)).map I52.d), s) := by
  have e : cutD (c.map I52.d) (some (f : Int)) (some ((l : Int) + 1)) = ((c.drop f).take (l + 1 - f)).map I52.d := by
    unfold cutD
    have e1 : ((l : Int) + 1) = ((l + 1 : Nat) : Int) := by omega
    rw [e1, HT.sIx_nat, HT.sIx_nat, List.length_map, Nat.min_eq_left (by omega), Nat.min_eq_left (by omega), ← List.map_drop, ← List.map_take]
  rw [cutO_tup, e, nst_code]
  rfl
theorem can_ok {c : List I52} (hc : ∀ i ∈ c, Gd52 i) {f l : Nat} (h1 : f ≤ l) (h2 : l < c.length) (h3 : c.length ≤ 100) (st : Sto) : ∃ st2, f__can_be_guarded [.tup (c.map I52.d), .tup [.int f, .int l]] st = some (.bl (grd c f l), st2) ∧ Ext st st2 := by
  suffices w : ∃ d s, f__can_be_guarded [.tup (c.map I52.d), .tup [.int f, .int l]] st = some (d, s) ∧ (d = .bl (grd c f l) ∧ Ext st s) by
    obtain ⟨d, s, e, rfl, x⟩ := w
    exact ⟨s, e, x⟩
  refine wp_run rfl ?_
  have hsl : List.map some [D.tup (c.map I52.d), .tup [.int f, .int l]] ++ List.replicate (8 - 2) none = [some (.tup (c.map I52.d)), some (.tup [.int f, .int l]), none, none, none, none, none, none] := rfl
  rw [hsl]
  unfold b__can_be_guarded
  obtain ⟨CD, hCD⟩ : ∃ CD, CD = D.tup (c.map I52.d) := ⟨_, rfl⟩
  have hcut : ∀ s, cutO CD (some (f : Int)) (some ((l : Int) + 1)) s = some (.tup (((c.drop f).take (l + 1 - f)).map I52.d), s) := fun s => by rw [hCD]; exact cut_code h1 h2 s
  have hany : ∀ (σ : Sl) s, σ[0]? = some (some CD) → anyI (varF 0) σ s = some (.cns (c.map I52.d), s) := fun σ s h => by
    simp only [anyI, varF_eq, h, bnd_some, hCD]
  rw [← hCD]
  obtain ⟨PD, hPD⟩ : ∃ PD, PD = D.tup [.int f, .int l] := ⟨_, rfl⟩
  refine wp_nx (σ1 := [some CD, some PD, some (.int f), some (.int l), none, none, none, none]) (st1 := st) (by rw [hPD]; rfl) ?_
  have sl : ((c.drop f).take (l + 1 - f)).length ≤ 100 := by rw [List.length_take, List.length_drop]; omega
  have sm : ∀ i ∈ (c.drop f).take (l + 1 - f), i ∈ c := fun i hi => List.mem_of_mem_drop (List.mem_of_mem_take hi)
  unfold grd
  generalize (c.drop f).take (l + 1 - f) = z at hcut sl sm
  obtain ⟨s2, e2, x2, g2⟩ := comp_ok (vs := [5]) (i := anyI (slF cutO (varF 0) (someO (varF 2)) (someO (binF addO (varF 3) (cstF (.int 1)))))) (g := nmG 5) (e := binF (inO false) (binF ixO (varF 5) (cstF (.int 0))) (cstF c_INNER)) (σ := [some CD, some PD, some (.int f), some (.int l), none, none, none, none]) (st := st) (st1 := st) (J := .cns (z.map I52.d)) (xs := z.map I52.d) ((z.map inn).map .bl)
    (by simp only [anyI, slF_eq, someO_eq, binF_eq, varF_eq, cstF_eq, bnd_some, List.getElem?_cons_zero, List.getElem?_cons_succ, addO_int, hcut]) (by rw [List.length_map]; show z.length ≤ 1000000; omega) (by simp) (fun s _ => rfl)
    (fun i x y ex ey s xs => by
      rw [List.getElem?_map] at ex
      rw [List.getElem?_map, List.getElem?_map] at ey
      cases ei : z[i]? with
      | none => rw [ei] at ex; cases ex
      | some I =>
      rw [ei] at ex ey
      cases ex
      cases ey
      refine ⟨[some CD, some PD, some (.int f), some (.int l), none, some I.d, none, none], s, rfl, ?_, Ext.refl⟩
      simp only [binF_eq, varF_eq, cstF_eq, bnd_some, List.getElem?_cons_zero, List.getElem?_cons_succ, ix0_i, in_inner])
  refine wp_nx (σ1 := [some CD, some PD, some (.int f), some (.int l), some (.loc st.length), none, none, none]) (st1 := s2) (by rw [asgS_eq, e2, bnd_some]; rfl) ?_
  obtain ⟨s3, e3, x3, g3⟩ := compF_ok (vs := [5]) (i := anyI (varF 0)) (g := nmG 5) (c := cmpT (eqO false) (binF ixO (varF 5) (cstF (.int 0))) (cstF (.str "go"))) (e := binF ixO (varF 5) (cstF (.int 1))) (σ := [some CD, some PD, some (.int f), some (.int l), some (.loc st.length), none, none, none]) (st := s2) (st1 := s2) (J := .cns (c.map I52.d)) (xs := c.map I52.d) ph52
    (hany _ _ rfl) (by rw [List.length_map]; show c.length ≤ 1000000; omega) (fun s _ => rfl)
    (fun i x ex s xs => by
      rw [List.getElem?_map] at ex
      cases ei : c[i]? with
      | none => rw [ei] at ex; cases ex
      | some I =>
      rw [ei] at ex
      cases ex
      have hg := hc I (List.mem_of_getElem? ei)
      refine ⟨[some CD, some PD, some (.int f), some (.int l), some (.loc st.length), some I.d, none, none], s, rfl, ?_, Ext.refl, fun y hy => ?_⟩
      · have e : (ph52 I.d).isSome = decide (I.w = "go") := by
          by_cases hw : I.w = "go"
          · obtain ⟨k, t, rfl⟩ := go_shape hg hw
            rw [decide_eq_true hw, ph_tgt]
            rfl
          · rw [decide_eq_false hw, ph_tgt, show tgt I = none from if_neg hw]; rfl
        rw [e]
        simp only [cmpT_eq, binF_eq, varF_eq, cstF_eq, bnd_some, List.getElem?_cons_zero, List.getElem?_cons_succ, ix0_i, eqO_str, Bool.bne_false, truth_bl, Option.map_some]
      · have hw : I.w = "go" := by
          apply Classical.byContradiction
          intro hn
          rw [ph_tgt, show tgt I = none from if_neg hn] at hy
          cases hy
        obtain ⟨k, t, rfl⟩ := go_shape hg hw
        rw [ph_tgt, show tgt ⟨"go", [.int k, t]⟩ = some k from if_pos rfl] at hy
        cases hy
        exact ⟨s, rfl, Ext.refl⟩)
  rw [ph_map] at g3
  refine wp_nx (σ1 := [some CD, some PD, some (.int f), some (.int l), some (.loc st.length), none, some (.loc s2.length), none]) (st1 := s3) (by rw [asgS_eq, e3, bnd_some]; rfl) ?_
  have gA : getL s3 st.length = some ((z.map inn).map .bl) := getL_of (x3.at g2)
  have a1 := any_ok (all := true) gA
  unfold leads
  have ll : (c.filterMap tgt).length ≤ c.length := List.length_filterMap_le _ _
  generalize c.filterMap tgt = ks at g3 ll
  obtain ⟨s4, e4, x4, g4⟩ := comp_ok (vs := [7]) (i := anyI (varF 6)) (g := nmG 7) (e := chnF ltO leO (varF 2) (varF 7) (varF 3)) (σ := [some CD, some PD, some (.int f), some (.int l), some (.loc st.length), none, some (.loc s2.length), none]) (st := s3) (st1 := s3) (J := .lst s2.length) (xs := ks.map .int) ((ks.map (hit f l)).map .bl)
    (by simp only [anyI_eq, varF_eq, bnd_some, List.getElem?_cons_zero, List.getElem?_cons_succ, getL_of g3, Option.map_some]) (by rw [List.length_map]; show ks.length ≤ 1000000; omega) (by simp) (fun s x => by rw [items_lst]; exact getL_of (x.at g3))
    (fun i x y ex ey s xs => by
      rw [List.getElem?_map] at ex
      rw [List.getElem?_map, List.getElem?_map] at ey
      cases ei : ks[i]? with
      | none => rw [ei] at ex; cases ex
      | some k =>
      rw [ei] at ex ey
      cases ex
      cases ey
      refine ⟨[some CD, some PD, some (.int f), some (.int l), some (.loc st.length), none, some (.loc s2.length), some (.int k)], s, rfl, ?_, Ext.refl⟩
      by_cases hk : (f : Int) < k
      · simp only [chnF_eq, varF_eq, bnd_some, List.getElem?_cons_zero, List.getElem?_cons_succ, ltO_int, leO_int, decide_eq_true hk, hit, Bool.true_and]
      · simp only [chnF_eq, varF_eq, bnd_some, List.getElem?_cons_zero, List.getElem?_cons_succ, ltO_int, leO_int, decide_eq_false hk, hit, Bool.false_and])
  have a2 := any_ok (all := false) (getL_of g4)
  have ea : (z.map inn).all id = z.all inn := by rw [List.all_map]; rfl
  have eb : (ks.map (hit f l)).any id = ks.any (hit f l) := by rw [List.any_map]; rfl
  simp only [if_true, Bool.false_eq_true, if_false, ea, eb] at a1 a2
  by_cases hz : z.all inn = true
  · rw [hz] at a1 ⊢
    refine wp_ret (d := .bl (!ks.any (hit f l))) (st1 := s4) ?_ ⟨by rw [Bool.true_and], (x2.trans x3).trans x4⟩
    simp only [andF_eq, appF_eq, consF_eq, nilF_eq, varF_eq, bnd_some, List.getElem?_cons_zero, List.getElem?_cons_succ, a1, truth_bl, Option.bind_some, if_true, notF_eq, e4, a2, Option.map_some]
  · have hz' : z.all inn = false := by simpa using hz
    rw [hz'] at a1 ⊢
    refine wp_ret (d := .bl false) (st1 := s3) ?_ ⟨by rw [Bool.false_and], x2.trans x3⟩
    simp only [andF_eq, appF_eq, consF_eq, nilF_eq, varF_eq, bnd_some, List.getElem?_cons_zero, List.getElem?_cons_succ, a1, truth_bl, Option.bind_some, Bool.false_eq_true, if_false]
/-! M13.lean -/
/-! ### the law's look at a span -/
theorem inn_list (i : I52) (σ : Sl) (s : Sto) : lstF (consF (cstF (.str "let")) (consF (cstF (.str "get")) (consF (cstF (.str "put")) (consF (cstF (.str "add")) (consF (cstF (.str "check")) nilF))))) σ s = some (.loc s.length, s ++ [.lst (innL.map .str)]) := rfl
theorem guardable_ok {c : List I52} (hc : ∀ i ∈ c, Gd52 i) {f l : Nat} (h1 : f ≤ l) (h2 : l < c.length) (h3 : c.length ≤ 100) (st : Sto) : ∃ st2, f__law_guardable [.tup (c.map I52.d), .int f, .int l] st = some (.bl (grd c f l), st2) ∧ Ext st st2 := by
  suffices w : ∃ d s, f__law_guardable [.tup (c.map I52.d), .int f, .int l] st = some (d, s) ∧ (d = .bl (grd c f l) ∧ Ext st s) by
    obtain ⟨d, s, e, rfl, x⟩ := w
    exact ⟨s, e, x⟩
  refine wp_run rfl ?_
  have hsl : List.map some [D.tup (c.map I52.d), .int f, .int l] ++ List.replicate (5 - 3) none = [some (.tup (c.map I52.d)), some (.int f), some (.int l), none, none] := rfl
  rw [hsl]
  unfold b__law_guardable
  obtain ⟨CD, hCD⟩ : ∃ CD, CD = D.tup (c.map I52.d) := ⟨_, rfl⟩
  have hlen : ∀ s, lenO [CD] s = some (.int c.length, s) := fun s => by
    rw [hCD]
    have : (c.map I52.d).length = c.length := List.length_map _
    have q : c.length ≤ LIM := by show c.length ≤ 1000000; omega
    simp [this, q]
  have hix : ∀ (k : Nat) (i : I52) s, c[k]? = some i → ixO CD (.int k) s = some (i.d, s) := fun k i s e => by
    rw [hCD, ixO_tup, atI_nat (by rw [List.getElem?_map, e]; rfl)]
    rfl
  have hany : ∀ (σ : Sl) s, σ[0]? = some (some CD) → anyI (varF 0) σ s = some (.cns (c.map I52.d), s) := fun σ s h => by
    simp only [anyI, varF_eq, h, bnd_some, hCD]
  rw [← hCD]
  have t0 : decide ((0 : Int) ≤ (f : Int)) = true := decide_eq_true (by omega)
  have t1 : decide ((f : Int) ≤ (l : Int)) = true := decide_eq_true (by omega)
  have t2 : decide ((l : Int) < (c.length : Int)) = true := decide_eq_true (by omega)
  refine wp_nx (σ1 := [some CD, some (.int f), some (.int l), none, none]) (st1 := st) (by
    simp only [ifS_eq, notT_eq, truF_eq, chn3F_eq, cstF_eq, varF_eq, appF_eq, consF_eq, nilF_eq, bnd_some, List.getElem?_cons_zero, List.getElem?_cons_succ, leO_int, ltO_int, t0, t1, t2, hlen, truth_bl, Option.map_some, Bool.not_true, Bool.false_eq_true, if_false]
    rfl) ?_
  have hz : ∀ (j : Nat) (i : I52), c[f + j]? = some i → j < l + 1 - f → ((c.drop f).take (l + 1 - f))[j]? = some i := fun j i e hj => by
    rw [List.getElem?_take_of_lt hj, List.getElem?_drop, e]
  have hzl : ((c.drop f).take (l + 1 - f)).length = l + 1 - f := by rw [List.length_take, List.length_drop]; omega
  refine wp_seq (wp_for (st1 := st) (xs := rngD f (l + 1 - f)) (fun j σ s => ∃ x3, σ = [some CD, some (.int f), some (.int l), x3, none] ∧ Ext st s ∧ ((c.drop f).take j).all inn = true)
    (by
      have e := rng2_ok (g := consF (varF 1) (consF (binF addO (varF 2) (cstF (.int 1))) nilF)) (σ := [some CD, some (.int f), some (.int l), none, none]) (st := st) (st1 := st) (i := f) (k := (l : Int) + 1) (by simp only [consF_eq, nilF_eq, binF_eq, varF_eq, cstF_eq, bnd_some, List.getElem?_cons_zero, List.getElem?_cons_succ, addO_int]) (by omega) (by omega) (by omega) (by omega)
      rw [e]
      have : ((l : Int) + 1 - (f : Int)).toNat = l + 1 - f := by omega
      rw [this]) ⟨none, rfl, Ext.refl, by simp⟩ ?_ ?_)
  · rintro j σ s d hd ⟨x3, rfl, xs, ha⟩
    obtain ⟨hj, rfl⟩ := rngD_get hd
    have hfj : f + j < c.length := by omega
    have ei : c[f + j]? = some c[f + j] := List.getElem?_eq_getElem hfj
    generalize c[f + j] = I at ei
    have e0 : ((f : Int) + (j : Nat)) = ((f + j : Nat) : Int) := by omega
    rw [e0]
    have q := in_strsM (w := I.w) (l := innL) (st := s ++ [OB.lst (innL.map .str)]) (k := s.length) true (new_get s _)
    have x1 : Ext s (s ++ [OB.lst (innL.map .str)]) := Ext.app _
    refine ⟨[some CD, some (.int f), some (.int l), some (.int ((f + j : Nat) : Int)), none], rfl, ?_⟩
    have hl := inn_list I [some CD, some (.int f), some (.int l), some (.int ((f + j : Nat) : Int)), none] s
    generalize s ++ [OB.lst (innL.map .str)] = s2 at q x1 hl
    refine wp_if (t := !inn I) (st1 := s2) (by
      rw [cmpT_eq, binF_eq]
      simp only [binF_eq, varF_eq, cstF_eq, bnd_some, List.getElem?_cons_zero, List.getElem?_cons_succ, hix _ I s ei, ix0_i, hl, q, truth_bl, Option.map_some]
      show some (decide (I.w ∈ innL) != true, s2) = some (!inn I, s2)
      unfold inn
      cases decide (I.w ∈ innL) <;> rfl) (fun h => ?_) (fun h => ?_)
    · refine wp_ret (d := .bl false) (st1 := s2) rfl ⟨?_, xs.trans x1⟩
      have : ((c.drop f).take (l + 1 - f)).all inn = false := by
        rw [List.all_eq_false]
        exact ⟨I, List.mem_of_getElem? (hz j I ei hj), by simpa using h⟩
      unfold grd
      rw [this]; rfl
    · refine wp_skip ⟨_, rfl, xs.trans x1, ?_⟩
      have : (c.drop f)[j]? = some I := by rw [List.getElem?_drop]; exact ei
      rw [List.take_add_one, this, List.all_append, ha]
      show (true && [I].all inn) = true
      simpa using h
  · rintro σ s ⟨x3, rfl, xs, ha⟩
    rw [rngD_len] at ha
    refine wp_seq (wp_for (st1 := s) (xs := c.map I52.d) (fun j σ s => ∃ x4, σ = [some CD, some (.int f), some (.int l), x3, x4] ∧ Ext st s ∧ ((c.take j).filterMap tgt).any (hit f l) = false) (hany _ _ rfl) ⟨none, rfl, xs, by simp⟩ ?_ ?_)
    · rintro j σ s d hd ⟨x4, rfl, xs, hn⟩
      rw [List.getElem?_map] at hd
      cases ei : c[j]? with
      | none => rw [ei] at hd; cases hd
      | some I =>
      rw [ei] at hd
      cases hd
      have hg := hc I (List.mem_of_getElem? ei)
      refine ⟨[some CD, some (.int f), some (.int l), x3, some I.d], rfl, ?_⟩
      have tk1 : (c.take (j + 1)).filterMap tgt = (c.take j).filterMap tgt ++ (tgt I).toList := by
        rw [List.take_add_one, ei, List.filterMap_append]
        cases hI : tgt I <;> simp [hI]
      by_cases hw : I.w = "go"
      · obtain ⟨k, t, rfl⟩ := go_shape hg hw
        have ht : tgt ⟨"go", [.int k, t]⟩ = some k := if_pos rfl
        have i0 := ix0_i ⟨"go", [.int k, t]⟩ s
        have i1 : ixO (I52.d ⟨"go", [.int k, t]⟩) (.int 1) s = some (.int k, s) := rfl
        refine wp_if (t := hit f l k) (st1 := s) (by
          rw [andT_eq, cmpT_eq, binF_eq]
          simp only [binF_eq, varF_eq, cstF_eq, bnd_some, List.getElem?_cons_zero, List.getElem?_cons_succ, i0, eqO_str, decide_true, Bool.bne_false, truth_bl, Option.map_some, if_true, truF_eq, chnF_eq, i1, ltO_int]
          by_cases hk : (f : Int) < k
          · simp only [decide_eq_true hk, varF_eq, bnd_some, List.getElem?_cons_zero, List.getElem?_cons_succ, leO_int, truth_bl, Option.map_some, hit, Bool.true_and]
          · simp only [decide_eq_false hk, bnd_some, truth_bl, Option.map_some, hit, Bool.false_and]) (fun h => ?_) (fun h => ?_)
        · refine wp_ret (d := .bl false) (st1 := s) rfl ⟨?_, xs⟩
          have : leads c f l = true := by
            unfold leads
            rw [List.any_eq_true]
            exact ⟨k, List.mem_filterMap.mpr ⟨_, List.mem_of_getElem? ei, ht⟩, h⟩
          unfold grd
          rw [this]; simp
        · refine wp_skip ⟨_, rfl, xs, ?_⟩
          rw [tk1, ht, List.any_append, hn]
          simpa using h
      · have ht : tgt I = none := if_neg hw
        have hd : decide (I.w = Str.ofString "go") = false := decide_eq_false hw
        refine wp_if (t := false) (st1 := s) (by
          rw [andT_eq, cmpT_eq, binF_eq]
          simp only [binF_eq, varF_eq, cstF_eq, bnd_some, List.getElem?_cons_zero, List.getElem?_cons_succ, ix0_i, eqO_str, hd, Bool.bne_false, truth_bl, Option.map_some, Bool.false_eq_true, if_false]) (fun h => by cases h) (fun _ => wp_skip ⟨_, rfl, xs, ?_⟩)
        rw [tk1, ht, List.any_append, hn]; rfl
    · rintro σ s ⟨x4, rfl, xs, hn⟩
      rw [List.length_map, List.take_length] at hn
      refine wp_ret (d := .bl true) (st1 := s) rfl ⟨?_, xs⟩
      unfold grd leads
      rw [ha, hn]; rfl
/-! U3.lean -/
section
variable {s : Sto} {σ : Sl} {f e : SE} {w : Str} {l : List Str} {n : Nat}
theorem inF_tx (w : Str) : ∀ l : List Str, inF (.str w) (l.map .str) = decide (w ∈ l)
  | [] => rfl
  | x :: l => by
    have ih := inF_tx w l
    unfold inF at ih ⊢
    simp only [List.map_cons, List.any_cons, ih, List.mem_cons]
    have : eqF (.str x) (.str w) = decide (w = x) := by
      rw [show eqF (.str x) (.str w) = decide (x = w) by unfold eqF; rw [← Bool.beq_eq_decide_eq]]
      by_cases h : w = x
      · rw [h]
      · rw [decide_eq_false h, decide_eq_false (fun e => h e.symm)]
    rw [this]
    by_cases h : w = x <;> simp [h]
theorem in_txL {st : Sto} (g : getL st n = some (l.map .str)) (neg : Bool) : inO neg (.str w) (.loc n) st = some (.bl (decide (w ∈ l) != neg), st) := by
  have sc : ∀ l : List Str, (l.map D.str).all scalD = true := fun l => by
    induction l with
    | nil => rfl
    | cons x l ih => simp [scalD, ih]
  unfold inO
  simp only [g]
  rw [if_pos ⟨rfl, sc l⟩, inF_tx]
/-- a text in a list of texts that is made on the spot -/
theorem et_inL (neg : Bool) (hf : Ev s f σ (.str w)) (h : ∀ st, Ext s st → ∃ st2 n, e σ st = some (.loc n, st2) ∧ Ext st st2 ∧ getL st2 n = some (l.map .str)) : Et s (cmpT (inO neg) f e) σ (decide (w ∈ l) != neg) := fun st k => by
  obtain ⟨s1, e1, x1⟩ := hf st k
  obtain ⟨s2, n, e2, x2, g2⟩ := h s1 (k.trans x1)
  exact ⟨s2, by rw [cmpT_eq, binF_eq, e1, bnd_some, e2, bnd_some, in_txL g2]; rfl, x1.trans x2⟩
end
/-! ### clean data: no places, all texts can be laid, of a known depth -/
def clN : Nat → D → Bool
  | _, .non => true
  | _, .int _ => true
  | _, .bl _ => true
  | _, .str x => PyData.strOk x
  | k + 1, .tup xs => xs.all (clN k)
  | _, _ => false
theorem clN_pu : ∀ (k : Nat) (d : D), clN k d = true → ∃ p, Pu k d p ∧ PyData.eqv p p = true
  | k, .non, _ => ⟨.none, pu_non, by simp [PyData.eqv]⟩
  | k, .int i, _ => ⟨.int i, pu_int, by simp [PyData.eqv]⟩
  | k, .bl b, _ => ⟨.bool b, ⟨fun st n => by simp only [py], by simp only [PyData.canLay0], by simp only [PyData.depth]; omega⟩, by simp [PyData.eqv]⟩
  | k, .str x, h => ⟨.str x, pu_str (by cases k <;> exact h), by simp [PyData.eqv]⟩
  | 0, .tup xs, h => by simp [clN] at h
  | 0, .loc n, h => by simp [clN] at h
  | k + 1, .loc n, h => by simp [clN] at h
  | k + 1, .tup xs, h => by
    have q : ∀ xs : List D, xs.all (clN k) = true → ∃ ps, Pus k xs ps ∧ PyData.eqvAll ps ps = true := by
      intro xs
      induction xs with
      | nil => exact fun _ => ⟨[], pus_nil, by simp [PyData.eqvAll]⟩
      | cons x xs ih =>
        intro h
        rw [List.all_cons, Bool.and_eq_true] at h
        obtain ⟨p, h1, h2⟩ := clN_pu k x h.1
        obtain ⟨ps, h3, h4⟩ := ih h.2
        exact ⟨p :: ps, pus_cons h1 h3, by rw [PyData.eqvAll, h2, h4]; rfl⟩
    obtain ⟨ps, h1, h2⟩ := q xs (by simpa only [clN] using h)
    exact ⟨.tuple ps, pu_tup h1, by rw [PyData.eqv]; exact h2⟩
theorem clN_up : ∀ {k m : Nat} {d : D}, clN k d = true → k ≤ m → clN m d = true
  | k, m, .non, _, _ => by cases m <;> rfl
  | k, m, .int i, _, _ => by cases m <;> rfl
  | k, m, .bl i, _, _ => by cases m <;> rfl
  | k, m, .str x, h, _ => by
    have : PyData.strOk x = true := by cases k <;> exact h
    cases m <;> exact this
  | 0, m, .tup xs, h, _ => by simp [clN] at h
  | 0, m, .loc xs, h, _ => by simp [clN] at h
  | k + 1, m, .loc xs, h, _ => by simp [clN] at h
  | k + 1, 0, .tup xs, h, l => absurd l (by omega)
  | k + 1, m + 1, .tup xs, h, l => by
    simp only [clN, List.all_eq_true] at h ⊢
    exact fun x hx => clN_up (h x hx) (by omega)
/-- clean data is the same as itself -/
theorem ne_self {xs : List D} {k : Nat} (h : clN k (.tup xs) = true) (hk : k ≤ 60) (neg : Bool) (st : Sto) : eqO neg (.tup xs) (.tup xs) st = some (.bl (!neg), st) := by
  obtain ⟨p, hp, he⟩ := clN_pu k _ h
  unfold eqO
  simp only [eqS, hp.1, pu_shaped hp (by omega), and_self, if_true, he]
  cases neg <;> rfl
/-! N1.lean -/
/-! ### k53: the drawn code -/
def cdG (c : List I52) : D := .tup (c.map I52.d)
structure Ck (c : List I52) (m : Nat) : Prop where
  len : c.length ≤ m
  good : ∀ i ∈ c, Gd52 i
  cl : ∀ i ∈ c, clN 4 i.d = true
def pieceB (l : List I52) : Bool := l.all fun i => clN 4 i.d
theorem sk (x : Str) (h : PyData.strOk x = true) (k : Nat) : clN k (.str x) = true := by cases k <;> exact h
theorem pcs_cl (n : Int) : ∀ l ∈ pcs n, ∀ i ∈ l, clN 4 i.d = true := by
  have h0 : ∀ l ∈ pcs 0, ∀ i ∈ l, clN 4 i.d = true := by decide +kernel
  intro l hl i hi
  have go2 : clN 4 (I52.d ⟨"go", [.int (n + 2), .tup [.str "reg", .str "a"]]⟩) = true := by
    have := h0 [⟨"go", [.int (0 + 2), .tup [.str "reg", .str "a"]]⟩, ⟨"put", [.str "y", addT]⟩] (by unfold pcs; simp) ⟨"go", [.int (0 + 2), .tup [.str "reg", .str "a"]]⟩ (by simp)
    simpa only [I52.d, clN, List.all_cons, List.all_nil, Bool.and_true, Bool.true_and] using this
  by_cases h : i = ⟨"go", [.int (n + 2), .tup [.str "reg", .str "a"]]⟩
  · rw [h]; exact go2
  · have : ∃ l2 ∈ pcs 0, i ∈ l2 := by
      unfold pcs at hl
      simp only [List.mem_cons, List.not_mem_nil, or_false] at hl
      rcases hl with rfl | rfl | rfl | rfl | rfl | rfl | rfl | rfl | rfl | rfl | rfl | rfl | rfl | rfl | rfl | rfl | rfl | rfl | rfl | rfl | rfl | rfl | rfl | rfl
      case inr.inr.inr.inr.inr.inr.inr.inr.inr.inr.inr.inr.inr.inr.inr.inr.inr.inl =>
        simp only [List.mem_cons, List.not_mem_nil, or_false] at hi
        rcases hi with rfl | rfl
        · exact absurd rfl h
        · exact ⟨[⟨"go", [.int (0 + 2), .tup [.str "reg", .str "a"]]⟩, ⟨"put", [.str "y", addT]⟩], by unfold pcs; simp, by simp⟩
      all_goals exact ⟨_, by unfold pcs; simp, hi⟩
    obtain ⟨l2, h2, h3⟩ := this
    exact h0 l2 h2 i h3
theorem pcs_len (n : Int) : ∀ l ∈ pcs n, l.length ≤ 4 := by
  intro l h
  unfold pcs at h
  simp only [List.mem_cons, List.not_mem_nil, or_false] at h
  rcases h with rfl | rfl | rfl | rfl | rfl | rfl | rfl | rfl | rfl | rfl | rfl | rfl | rfl | rfl | rfl | rfl | rfl | rfl | rfl | rfl | rfl | rfl | rfl | rfl <;> simp
theorem ix0_id {i : I52} {s : Sto} : O2 s ixO i.d (.int 0) (.str i.w) := o_ix0
def noteL : List Str := ["wait", "notify", "notifyall", "send", "take"]
theorem ea_txs {s : Sto} {σ : Sl} : Ea s nilF σ (([] : List Str).map .str) := Ea.nil
theorem lit_let : clN 4 (I52.d ⟨"let", [.str "d", .tup [.str "num", .int 0]]⟩) = true := by decide +kernel
theorem lit_get : clN 4 (I52.d ⟨"get", [.str "a", .str "x"]⟩) = true := by decide +kernel
def plain1 (i : I52) : I52 := if decide (i.w ∈ noteL) = true then ⟨"let", [.str "d", .tup [.str "num", .int 0]]⟩ else i
def plainC (c : List I52) : List I52 := if c = [] then [⟨"get", [.str "a", .str "x"]⟩] else c.map plain1
theorem plainC_ok {c : List I52} {m : Nat} (hc : Ck c m) (hm1 : 1 ≤ m) : Ck (plainC c) m ∧ 0 < (plainC c).length := by
  have hg : ∀ i ∈ c, Gd52 (plain1 i) ∧ clN 4 (plain1 i).d = true := fun i hi => by
    unfold plain1
    split
    · exact ⟨.leti _ _, lit_let⟩
    · exact ⟨hc.good i hi, hc.cl i hi⟩
  unfold plainC
  split
  · exact ⟨⟨hm1, fun i hi => by rw [List.mem_singleton.mp hi]; exact .get _ _, fun i hi => by rw [List.mem_singleton.mp hi]; exact lit_get⟩, by simp⟩
  · rename_i h
    refine ⟨⟨by rw [List.length_map]; exact hc.len, fun i hi => ?_, fun i hi => ?_⟩, by rw [List.length_map]; exact List.length_pos_iff.mpr h⟩
    · obtain ⟨j, hj, rfl⟩ := List.mem_map.mp hi; exact (hg j hj).1
    · obtain ⟨j, hj, rfl⟩ := List.mem_map.mp hi; exact (hg j hj).2
theorem plain_ok {c : List I52} {m : Nat} (hc : Ck c m) (hm : m ≤ 100) (s : Sto) : Rt s f__law_plain [cdG c] (cdG (plainC c)) := by
    intro st k
    have hl := hc.len
    let g := plain1
    let c2 := plainC c
    suffices w : ∃ d s2, f__law_plain [cdG c] st = some (d, s2) ∧ d = cdG c2 ∧ Ext st s2 by
      obtain ⟨d, s2, e, rfl, x⟩ := w
      exact ⟨s2, e, x⟩
    refine wp_run rfl ?_
    have hsl : List.map some [cdG c] ++ List.replicate (3 - 1) none = [some (cdG c), none, none] := rfl
    rw [hsl]
    unfold b__law_plain
    refine wp_nx (σ1 := [some (cdG c), some (.loc st.length), none]) (st1 := st ++ [.lst []]) (by simp) ?_
    refine wp_seq (wp_forT (xs := c.map I52.d) (fun j σ s => ∃ x2, σ = [some (cdG c), some (.loc st.length), x2] ∧ Ext st s ∧ s[st.length]? = some (.lst (((c.take j).map g).map I52.d))) (Ev.var rfl) (fun s1 x1 => ⟨_, rfl, (Ext.app _).trans x1, by rw [x1.at (by simp : (st ++ [OB.lst []])[st.length]? = some (.lst []))]; rfl⟩) ?_ ?_)
    · rintro j σ s d hd ⟨x2, rfl, xx, gg⟩
      rw [List.getElem?_map] at hd
      cases ei : c[j]? with
      | none => rw [ei] at hd; cases hd
      | some i =>
      rw [ei] at hd
      cases hd
      refine ⟨[some (cdG c), some (.loc st.length), some i.d], rfl, ?_⟩
      have et : Et s (cmpT (inO false) (binF ixO (varF 2) (cstF (.int 0))) (lstF (consF (cstF (.str "wait")) (consF (cstF (.str "notify")) (consF (cstF (.str "notifyall")) (consF (cstF (.str "send")) (consF (cstF (.str "take")) nilF))))))) [some (cdG c), some (.loc st.length), some i.d] (decide (i.w ∈ noteL) != false) :=
        et_inL false (Ev.bin (Ev.var rfl) Ev.cst ix0_id) (Lv.get (Lv.lst (Ea.cons Ev.cst (Ea.cons Ev.cst (Ea.cons Ev.cst (Ea.cons Ev.cst (Ea.cons Ev.cst Ea.nil))))) (by decide)))
      have tk : c.take (j + 1) = c.take j ++ [i] := by rw [List.take_succ, ei]; rfl
      have fin : ∀ (s2 : Sto) (e : SE) (y : I52), Ext s s2 → Ev s2 e [some (cdG c), some (.loc st.length), some i.d] y.d → y = g i → Wp (exS (bmF "list" appendO (varF 1) (consF e nilF)) [some (cdG c), some (.loc st.length), some i.d] s2) fun r s3 => ∃ σ2, r = .nx σ2 ∧ ∃ x2, σ2 = [some (cdG c), some (.loc st.length), x2] ∧ Ext st s3 ∧ s3[st.length]? = some (.lst (((c.take (j + 1)).map g).map I52.d)) := fun s2 e y x2 he hy => by
        refine wp_pushE rfl he (x2.at gg) (by simp only [List.length_map, List.length_take]; omega) fun s3 x3 g3 => ⟨_, rfl, _, rfl, ((xx.trans x2).trans x3).set (Nat.le_refl _), ?_⟩
        rw [List.getElem?_set_self (List.getElem?_eq_some_iff.mp g3).1, tk, List.map_append, List.map_append, hy]
        rfl
      refine wp_ifE et (fun h s2 x2 => ?_) (fun h s2 x2 => ?_)
      · refine wp_mono (fin s2 _ ⟨"let", [.str "d", .tup [.str "num", .int 0]]⟩ x2 (by simp only [I52.d]; walk_at "Lw.ev") ?_) fun r s h => by obtain ⟨σ2, rfl, h⟩ := h; exact h
        rw [Bool.bne_false] at h
        exact (if_pos h).symm
      · refine wp_mono (fin s2 _ i x2 (Ev.var rfl) ?_) fun r s h => by obtain ⟨σ2, rfl, h⟩ := h; exact h
        rw [Bool.bne_false] at h
        exact (if_neg (by rw [h]; decide)).symm
    · rintro σ s ⟨x2, rfl, xx, gg⟩
      rw [List.length_map, List.take_length] at gg
      refine wp_seq (wp_ifE (b := decide ((c.length : Int) = 0)) ?_ (fun h s2 x2 => ?_) (fun h s2 x2 => ?_))
      · have : Ev s (appF lenO (consF (varF 1) nilF)) [some (cdG c), some (.loc st.length), x2] (.int c.length) := by
          have := Ev.app (Ea.cons (Ev.var (s := s) (σ := [some (cdG c), some (.loc st.length), x2]) (i := 1) rfl) Ea.nil) (o_lenL (getL_of gg))
          rwa [List.length_map, List.length_map] at this
        exact Et.cmp this Ev.cst o_eqii
      · have hc0 : c = [] := by
          have := of_decide_eq_true h
          exact List.length_eq_zero_iff.mp (by omega)
        refine wp_pushE rfl (d := I52.d ⟨"get", [.str "a", .str "x"]⟩) (by simp only [I52.d]; walk_at "Lw.ev") (x2.at gg) (by rw [List.length_map, List.length_map]; omega) fun s3 x3 g3 => ?_
        refine wp_retE (d := cdG c2) (Ev.app (Ea.cons (Ev.var rfl) Ea.nil) ?_) fun s4 x4 => ⟨rfl, (((xx.trans x2).trans x3).set (Nat.le_refl _)).trans x4⟩
        have e2 : c2 = [⟨"get", [.str "a", .str "x"]⟩] := if_pos hc0
        have := o_tupleL (s := s3.set st.length (.lst (((c.map g).map I52.d) ++ [I52.d ⟨"get", [.str "a", .str "x"]⟩]))) (getL_of (List.getElem?_set_self (List.getElem?_eq_some_iff.mp g3).1))
        rw [e2]
        rw [hc0] at this ⊢
        exact this
      · have hc0 : ¬ c = [] := fun e => by
          rw [e] at h
          exact absurd h (by decide)
        refine wp_skip (wp_retE (d := cdG c2) (Ev.app (Ea.cons (Ev.var rfl) Ea.nil) ?_) fun s4 x4 => ⟨rfl, (xx.trans x2).trans x4⟩)
        have e2 : c2 = c.map g := if_neg hc0
        rw [e2]
        exact o_tupleL (getL_of (x2.at gg))
structure Cg (c : List I52) : Prop extends Ck c 12 where
  pos : 0 < c.length
def tg4 : D := .tup [.tup [.str "var", .str "x", .int 0], .tup [.str "lock", .str "m"], .tup [.str "var", .str "y", .int 1], .tup [.str "lock", .str "n"]]
theorem longer53_ok {pad cell piece : Fx} (hcl : CellOk cell) (hpd : PadOk pad) (hpc : PieceOk piece) {st : Sto} {n : Nat} {ns : List Int} (hn : getL st n = some (ns.map .int)) :
    ∃ (c0 c1 : List I52) (st2 : Sto), f__law_longer pad cell piece f__law_plain [.loc n] st = some (.tup [tg4, .tup [cdG c0, cdG c1]], st2) ∧ Cg c0 ∧ Cg c1 ∧ Ext st st2 := by
  suffices w : ∃ d s, f__law_longer pad cell piece f__law_plain [.loc n] st = some (d, s) ∧ ∃ c0 c1 : List I52, d = .tup [tg4, .tup [cdG c0, cdG c1]] ∧ Cg c0 ∧ Cg c1 ∧ Ext st s by
    obtain ⟨d, s, e, c0, c1, rfl, r⟩ := w
    exact ⟨c0, c1, s, e, r⟩
  refine wp_run rfl ?_
  have hsl : List.map some [D.loc n] ++ List.replicate (8 - 1) none = [some (.loc n), none, none, none, none, none, none, none] := rfl
  rw [hsl]
  unfold b__law_longer
  refine wp_nx (σ1 := [some (.loc n), some (.loc st.length), none, none, none, none, none, none]) (st1 := st ++ [.lst []]) (by simp) ?_
  refine wp_seq (wp_for (st1 := st ++ [.lst []]) (xs := rngD 0 2) (fun k σ s => ∃ (cs : List (List I52)) (x2 x3 x4 x5 x6 : Option D), σ = [some (.loc n), some (.loc st.length), x2, x3, x4, x5, x6, none] ∧ Ext st s ∧ s[st.length]? = some (.lst (cs.map cdG)) ∧ cs.length = k ∧ ∀ c ∈ cs, Ck c 12) (rng1_nat (by simp) (by decide)) ⟨[], none, none, none, none, none, rfl, Ext.app _, by simp, rfl, fun c hc => by cases hc⟩ ?_ ?_)
  · rintro k σ s d hd ⟨cs, x2, x3, x4, x5, x6, rfl, xs, g, hk, hcs⟩
    obtain ⟨hk2, rfl⟩ := rngD_get hd
    rw [show ((0 : Int) + (k : Nat)) = (k : Nat) by omega]
    have e1 := hcl s n ns (xs.getL hn) k
    obtain ⟨ds, hds, e2⟩ := hpd (ns.getD k 0) k s
    have hsl2 : st.length < s.length := (List.getElem?_eq_some_iff.mp g).1
    refine ⟨[some (.loc n), some (.loc st.length), some (.int (k : Nat)), x3, x4, x5, x6, none], rfl, ?_⟩
    refine wp_nx (σ1 := [some (.loc n), some (.loc st.length), some (.int (k : Nat)), some (.loc s.length), x4, x5, x6, none]) (st1 := s ++ [.lst (ds.map .int)]) (by simp only [asgS_eq, callF_eq, consF_eq, nilF_eq, varF_eq, bnd_some, List.getElem?_cons_zero, List.getElem?_cons_succ, e1, e2]; rfl) ?_
    have x1 : Ext s (s ++ [OB.lst (ds.map .int)]) := Ext.app _
    have gd1 : getL (s ++ [OB.lst (ds.map .int)]) s.length = some (ds.map .int) := getL_of (by simp)
    generalize s ++ [OB.lst (ds.map .int)] = s1 at x1 gd1
    have x1' : Ext s1 (s1 ++ [OB.lst []]) := Ext.app _
    refine wp_nx (σ1 := [some (.loc n), some (.loc st.length), some (.int (k : Nat)), some (.loc s.length), some (.loc s1.length), x5, x6, none]) (st1 := s1 ++ [.lst []]) (by simp [LIM]) ?_
    refine wp_seq (wp_for (st1 := s1 ++ [.lst []]) (xs := rngD 0 8) (fun j σ s2 => ∃ (c : List I52) (m : Nat) (x5 x6 : Option D), σ = [some (.loc n), some (.loc st.length), some (.int (k : Nat)), some (.loc s.length), some (.loc m), x5, x6, none] ∧ Ext s1 s2 ∧ s2[m]? = some (.lst (c.map I52.d)) ∧ Ck c 12) (rng1_nat (by simp) (by decide)) ⟨[], s1.length, x5, x6, rfl, Ext.app _, by simp, ⟨by simp, (fun i hi => by cases hi), (fun i hi => by cases hi)⟩⟩ ?_ ?_)
    · rintro j σ s2 d hd ⟨c, m, x5, x6, rfl, xs2, gm, hc⟩
      obtain ⟨hj, rfl⟩ := rngD_get hd
      rw [show ((0 : Int) + (j : Nat)) = (j : Nat) by omega]
      have hjd : j < ds.length := by omega
      have i3 : O2 s2 ixO (.loc s.length) (.int (j : Nat)) (.int ds[j]) := o_ixL (xs2.getL gd1) (by rw [List.getElem?_map, List.getElem?_eq_getElem hjd]; rfl)
      have hl12 := hc.len
      have lc : ON s2 lenO [.loc m] (.int c.length) := by have := o_lenL (getL_of gm); rwa [List.length_map] at this
      refine ⟨[some (.loc n), some (.loc st.length), some (.int (k : Nat)), some (.loc s.length), some (.loc m), some (.int (j : Nat)), x6, none], rfl, ?_⟩
      -- the piece
      obtain ⟨s2a, ea, xa⟩ := (Ea.cons (Ev.bin (Ev.var rfl) (Ev.var rfl) i3) (Ea.cons (Ev.app (Ea.cons (Ev.var rfl) Ea.nil) lc) Ea.nil) : Ea s2 (consF (binF ixO (varF 3) (varF 5)) (consF (appF lenO (consF (varF 4) nilF)) nilF)) [some (.loc n), some (.loc st.length), some (.int (k : Nat)), some (.loc s.length), some (.loc m), some (.int (j : Nat)), x6, none] _) s2 Ext.refl
      obtain ⟨pk, pm, l, s3, e3, x3', hl, gl, _⟩ := hpc ds[j] c.length s2a
      have hgl : ∀ i ∈ l, Gd52 i := pcs_good _ l (List.mem_of_getElem? hl)
      have hcll : ∀ i ∈ l, clN 4 i.d = true := pcs_cl _ l (List.mem_of_getElem? hl)
      have hll := pcs_len _ l (List.mem_of_getElem? hl)
      have gm3 := (xa.trans x3').at gm
      refine wp_nx (σ1 := [some (.loc n), some (.loc st.length), some (.int (k : Nat)), some (.loc s.length), some (.loc m), some (.int (j : Nat)), some (.loc pm), none]) (st1 := s3) (by rw [asgS_eq, callF_eq, ea, bnd_some, e3]; rfl) ?_
      have lc3 : ON s3 lenO [.loc m] (.int c.length) := by have := o_lenL (getL_of gm3); rwa [List.length_map] at this
      have ll3 : ON s3 lenO [.loc pm] (.int l.length) := by have := o_lenL (getL_of gl); rwa [List.length_map] at this
      -- the cap
      obtain ⟨cap, hcap, ecap⟩ : ∃ cap : Int, cap ≤ 12 ∧ Ev s3 (binF ixO (lstF (consF (cstF (.int 7)) (consF (cstF (.int 12)) nilF))) (binF modO (appF intOf (consF (callF cell (consF (varF 0) (consF (cstF (.int 12)) nilF))) nilF)) (cstF (.int 2)))) [some (.loc n), some (.loc st.length), some (.int (k : Nat)), some (.loc s.length), some (.loc m), some (.int (j : Nat)), some (.loc pm), none] (.int cap) := by
        have hv : Ev s3 (binF modO (appF intOf (consF (callF cell (consF (varF 0) (consF (cstF (.int 12)) nilF))) nilF)) (cstF (.int 2))) [some (.loc n), some (.loc st.length), some (.int (k : Nat)), some (.loc s.length), some (.loc m), some (.int (j : Nat)), some (.loc pm), none] (.int (ns.getD 12 0 % 2)) :=
          Ev.bin (Ev.app (Ea.cons (Ev.call (Ea.cons (Ev.var rfl) (Ea.cons Ev.cst Ea.nil)) (d := .int (ns.getD 12 0)) fun st4 k4 => ⟨st4, hcl st4 n ns (((((xs.trans x1).trans xs2).trans (xa.trans x3')).trans k4).getL hn) 12, Ext.refl⟩) Ea.nil) o_inti) Ev.cst (o_mod (by simp [cPos]))
        have hr : ns.getD 12 0 % 2 = 0 ∨ ns.getD 12 0 % 2 = 1 := by omega
        rcases hr with h | h
        · exact ⟨7, by decide, Ev.ixL (Lv.get (Lv.lst (Ea.cons Ev.cst (Ea.cons Ev.cst Ea.nil)) (by decide))) hv (by rw [h]; rfl)⟩
        · exact ⟨12, by decide, Ev.ixL (Lv.get (Lv.lst (Ea.cons Ev.cst (Ea.cons Ev.cst Ea.nil)) (by decide))) hv (by rw [h]; rfl)⟩
      refine wp_ifE (b := decide ((c.length : Int) + (l.length : Int) ≤ cap)) (Et.cmp (Ev.bin (Ev.app (Ea.cons (Ev.var rfl) Ea.nil) lc3) (Ev.app (Ea.cons (Ev.var rfl) Ea.nil) ll3) o_add) ecap o_le) (fun h s4 x4 => ?_) (fun h s4 x4 => ?_)
      · have h8 : (c.length : Int) + (l.length : Int) ≤ cap := of_decide_eq_true h
        obtain ⟨s5, m5, e5, x5', g5⟩ := (Lv.add (Lv.var (i := 4) (σ := [some (.loc n), some (.loc st.length), some (.int (k : Nat)), some (.loc s.length), some (.loc m), some (.int (j : Nat)), some (.loc pm), none]) rfl (x4.at gm3)) (Lv.var (i := 6) rfl (x4.at gl)) (by rw [List.length_map, List.length_map]; omega)) s4 Ext.refl
        rw [← List.map_append] at g5
        refine wp_asg (d := .loc m5) (st1 := s5) e5 rfl ⟨c ++ l, m5, _, _, rfl, (((xs2.trans xa).trans x3').trans x4).trans x5', g5, ⟨by rw [List.length_append]; omega, fun i hi => ?_, fun i hi => ?_⟩⟩
        · rcases List.mem_append.mp hi with h | h
          · exact hc.good i h
          · exact hgl i h
        · rcases List.mem_append.mp hi with h | h
          · exact hc.cl i h
          · exact hcll i h
      · exact wp_skip ⟨c, m, _, _, rfl, ((xs2.trans xa).trans x3').trans x4, x4.at gm3, hc⟩
    · rintro σ s2 ⟨c, m, x5, x6, rfl, xs2, gm, hc⟩
      refine wp_pushE rfl (d := cdG c) (Ev.app (Ea.cons (Ev.var rfl) Ea.nil) (o_tupleL (getL_of gm))) ((x1.trans xs2).at g) (by rw [List.length_map]; omega) fun s3 x3 g3 => ⟨cs ++ [c], _, _, _, _, _, rfl, (((xs.trans x1).trans xs2).trans x3).set (Nat.le_refl _), ?_, by simp [hk], fun z hz => ?_⟩
      · rw [List.getElem?_set_self (List.getElem?_eq_some_iff.mp g3).1, List.map_append]; rfl
      · rcases List.mem_append.mp hz with h | h
        · exact hcs z h
        · rw [List.mem_singleton.mp h]; exact hc
  · rintro σ s ⟨cs, x2, x3, x4, x5, x6, rfl, xs, g, hk, hcs⟩
    rw [rngD_len] at hk
    obtain ⟨c0, c1, rfl⟩ : ∃ c0 c1, cs = [c0, c1] := by
      match cs, hk with
      | [a, b], _ => exact ⟨a, b, rfl⟩
    have p0 := plainC_ok (hcs c0 (by simp)) (by decide)
    have p1 := plainC_ok (hcs c1 (by simp)) (by decide)
    refine wp_asE (d := tg4) (by unfold tg4; walk_at "Lw.ev") fun s2 y2 => ?_
    refine wp_retE (d := .tup [tg4, .tup [cdG (plainC c0), cdG (plainC c1)]]) (Ev.tup (Ea.cons (Ev.var rfl) (Ea.cons (Ev.tupL (xs := [cdG (plainC c0), cdG (plainC c1)]) ?_) Ea.nil)) rfl) fun s3 y3 => ⟨_, _, rfl, ⟨p0.1, p0.2⟩, ⟨p1.1, p1.2⟩, (xs.trans y2).trans y3⟩
    have hi : Ei s2 (anyI (varF 1)) ([some (.loc n), some (.loc st.length), x2, x3, x4, x5, x6, none].set 7 (some tg4)) ([c0, c1].map cdG) := Ei.loc (n := st.length) (Ev.var rfl) (getL_of (y2.at g))
    exact Ev.compM (L := [c0, c1]) (fd := cdG) (fun c => some (cdG (plainC c))) hi (by show 2 ≤ 1000000; decide) (fun c hc => ⟨_, rfl, fun st _ => ⟨st, rfl, Ext.refl⟩, fun y ey => by cases ey; exact Ev.call (Ea.cons (Ev.var rfl) Ea.nil) (plain_ok (hcs c hc) (by decide) s2)⟩)
/-! L7aq.lean -/
/-! ### texts by their codes -/
abbrev cs (x : Str) : List Nat := x.cps.toList
def mk (l : List Nat) : Str := ⟨l.toArray⟩
theorem cs_mk (l : List Nat) : cs (mk l) = l := rfl
theorem mk_cs (x : Str) : mk (cs x) = x := by cases x; rfl
theorem str_ext {x y : Str} (h : cs x = cs y) : x = y := by rw [← mk_cs x, ← mk_cs y, h]
theorem len_cs (x : Str) : x.length = (cs x).length := by simp [Str.length, cs]
theorem mk_len (l : List Nat) : (mk l).length = l.length := by rw [len_cs, cs_mk]
theorem mk_inj {l m : List Nat} : mk l = mk m ↔ l = m := ⟨fun h => by rw [← cs_mk l, h, cs_mk], fun h => by rw [h]⟩
theorem cs_app (x y : Str) : cs (x ++ y) = cs x ++ cs y := TL.tl_append x y
theorem mk_app (l m : List Nat) : mk l ++ mk m = mk (l ++ m) := str_ext (by rw [cs_app]; rfl)
def digL : List Nat := cs c_DIGITS_s where c_DIGITS_s : Str := "0123456789"
def letL : List Nat := cs c_s where c_s : Str := "abcdefghijklmnopqrstuvwxyz"
def sgnL : List Nat := cs c_s where c_s : Str := "+-*=<()"
def isD (c : Nat) : Bool := decide (c ∈ digL)
def isL (c : Nat) : Bool := decide (c ∈ letL)
def isW (c : Nat) : Bool := decide (c ∈ letL ++ digL)
def isS (c : Nat) : Bool := decide (c ∈ sgnL)
theorem dig_d : cs "0123456789" = digL := rfl
theorem let_d : cs "abcdefghijklmnopqrstuvwxyz" = letL := rfl
theorem sgn_d : cs "+-*=<()" = sgnL := rfl
theorem digL_eq : digL = [48, 49, 50, 51, 52, 53, 54, 55, 56, 57] := by decide +kernel
theorem letL_eq : letL = [97, 98, 99, 100, 101, 102, 103, 104, 105, 106, 107, 108, 109, 110, 111, 112, 113, 114, 115, 116, 117, 118, 119, 120, 121, 122] := by decide +kernel
theorem sgnL_eq : sgnL = [43, 45, 42, 61, 60, 40, 41] := by decide +kernel
theorem in_str (c : Nat) (x : Str) (st : Sto) : inO false (.str (mk [c])) (.str x) st = some (.bl (decide (c ∈ cs x)), st) := by
  have h := StrLaws.found_one x c
  simp only [inO]
  rw [show (mk [c]) = (⟨#[c]⟩ : Str) from rfl, h, Bool.bne_false]
theorem ix_str_at {x : Str} {i : Nat} {c : Nat} (hl : x.length ≤ LIM) (h : (cs x)[i]? = some c) (st : Sto) : ixO (.str x) (.int (i : Nat)) st = some (.str (mk [c]), st) := by
  rw [ixO_str, if_pos hl, atI_nat h]
  rfl
theorem space_eq (c : Nat) : decide (mk [c] = Str.ofString " ") = decide (c = 32) := by
  have e : Str.ofString " " = mk [32] := by decide +kernel
  rw [e]
  by_cases h : c = 32
  · subst h; simp
  · have h2 : ¬ mk [c] = mk [32] := fun q => h (by have := mk_inj.mp q; simpa using this)
    rw [decide_eq_false h, decide_eq_false h2]
theorem six_nat (n d k : Nat) (h : k ≤ n) : HT.sIx n d (some (k : Int)) = k := by rw [HT.sIx_nat]; omega
/-! L7q.lean -/
theorem run_at_ok (x y : Str) (a : Nat) (st : Sto) (hl : x.length ≤ 50000) (ha : a ≤ x.length) : f__run_at [.str x, .int (a : Nat), .str y] st = some (.str (mk (((cs x).drop a).takeWhile fun c => decide (c ∈ cs y))), st) := by
  suffices q : ∃ d s, f__run_at [.str x, .int (a : Nat), .str y] st = some (d, s) ∧ d = .str (mk (((cs x).drop a).takeWhile fun c => decide (c ∈ cs y))) ∧ s = st by
    obtain ⟨d, s, e, rfl, rfl⟩ := q
    exact e
  have hL : x.length ≤ LIM := Nat.le_trans hl (by decide)
  have hlen := len_cs x
  refine wp_run rfl ?_
  unfold b__run_at
  refine wp_nx (σ1 := [some (.str x), some (.int (a : Nat)), some (.str y), some (.int (a : Nat))]) (st1 := st) (by simp) ?_
  refine wp_seq (wp_while (fun σ s => s = st ∧ ∃ e : Nat, a ≤ e ∧ e ≤ x.length ∧ σ = [some (.str x), some (.int (a : Nat)), some (.str y), some (.int (e : Nat))] ∧ ((cs x).drop a).takeWhile (fun c => decide (c ∈ cs y)) = ((cs x).drop a).take (e - a) ++ ((cs x).drop e).takeWhile fun c => decide (c ∈ cs y))
    (fun σ s => match σ with
      | [_, _, _, some (.int e)] => x.length - e.toNat
      | _ => 0) ⟨rfl, a, Nat.le_refl _, ha, rfl, by simp⟩ (by show x.length - ((a : Nat) : Int).toNat < 100000; omega) ?_)
  rintro σ s ⟨rfl, e, h1, h2, rfl, h3⟩
  have fin : ((cs x).drop e).takeWhile (fun c => decide (c ∈ cs y)) = [] → Wp (retS (slF cutO (varF 0) (someO (varF 1)) (someO (varF 3))) [some (.str x), some (.int (a : Nat)), some (.str y), some (.int (e : Nat))] s) fun r s' => match r with
      | .nx _ => (.non : D) = .str (mk (((cs x).drop a).takeWhile fun c => decide (c ∈ cs y))) ∧ s' = s
      | .ret d => d = .str (mk (((cs x).drop a).takeWhile fun c => decide (c ∈ cs y))) ∧ s' = s
      | _ => False := fun h0 => by
    refine wp_ret (d := .str (cutS x (some (a : Nat)) (some (e : Nat)))) (st1 := s) (by simp only [slF_eq, varF_eq, someO_eq, bnd_some, List.getElem?_cons_zero, List.getElem?_cons_succ, cutO_str, hL, if_true]) ⟨?_, rfl⟩
    rw [h3, h0, List.append_nil]
    unfold cutS
    rw [six_nat _ _ _ ha, six_nat _ _ _ h2]
    rfl
  by_cases hlt : e < x.length
  · obtain ⟨c, hc⟩ : ∃ c, (cs x)[e]? = some c := ⟨(cs x)[e]'(by omega), List.getElem?_eq_getElem _⟩
    have hd : (cs x).drop e = c :: (cs x).drop (e + 1) := by
      rw [List.drop_eq_getElem_cons (by omega)]
      congr 1
      exact (List.getElem?_eq_some_iff.mp hc).2
    have ix := ix_str_at hL hc
    refine ⟨decide (c ∈ cs y), s, ?_, fun ht => ?_, fun hf => ?_⟩
    · simp only [andT_eq, cmpT_eq, binF_eq, varF_eq, appF_eq, consF_eq, nilF_eq, bnd_some, List.getElem?_cons_zero, List.getElem?_cons_succ, lenO_str, hL, if_true, ltO_int, truth_bl, Option.map_some, ix, in_str]
      have : ((e : Nat) : Int) < (x.length : Int) := by omega
      simp [this]
    · refine wp_ok (r := .nx [some (.str x), some (.int (a : Nat)), some (.str y), some (.int ((e + 1 : Nat) : Int))]) (st := s) (by simp) ⟨⟨rfl, e + 1, by omega, hlt, rfl, ?_⟩, ?_⟩
      · rw [h3, hd, List.takeWhile_cons, ht, if_pos rfl]
        have ht2 : ((cs x).drop a).take (e + 1 - a) = ((cs x).drop a).take (e - a) ++ [c] := by
          have e1 : e + 1 - a = (e - a) + 1 := by omega
          rw [e1, List.take_add_one, List.getElem?_drop, show a + (e - a) = e by omega, hc]
          rfl
        rw [ht2, List.append_assoc]
        rfl
      · show x.length - ((e + 1 : Nat) : Int).toNat < x.length - ((e : Nat) : Int).toNat
        omega
    · exact fin (by rw [hd, List.takeWhile_cons, hf]; rfl)
  · refine ⟨false, s, ?_, (fun h => by cases h), fun _ => fin ?_⟩
    · simp only [andT_eq, cmpT_eq, binF_eq, varF_eq, appF_eq, consF_eq, nilF_eq, bnd_some, List.getElem?_cons_zero, List.getElem?_cons_succ, lenO_str, hL, if_true, ltO_int, truth_bl, Option.map_some]
      have : ¬ ((e : Nat) : Int) < (x.length : Int) := by omega
      simp [this]
    · rw [List.drop_eq_nil_of_le (by omega)]; rfl
/-! L8q.lean -/
/-! ### the tokens of a line, by codes -/
def numOk (l : List Nat) : Bool := decide (l.length = 1) || (decide (l.length = 2) && !decide (l.head? = some 48))
/-- the first token of a row of codes that begins with c -/
def tokAt (c : Nat) (r : List Nat) : Str × List Nat :=
  if isD c = true then (if numOk ((c :: r).takeWhile isD) = true then "number" else "bad", (c :: r).takeWhile isD)
  else if isL c = true then (if ((c :: r).takeWhile isW).length ≤ 8 then "word" else "bad", (c :: r).takeWhile isW)
  else (if isS c = true then "sign" else "bad", [c])
def tokD (t : Str × List Nat) : D := .tup [.str t.1, .str (mk t.2)]
theorem isW_of_L {c : Nat} (h : isL c = true) : isW c = true := by
  unfold isL at h; unfold isW
  simp only [decide_eq_true_eq, List.mem_append] at h ⊢
  exact .inl h
theorem tokAt_ne (c : Nat) (r : List Nat) : ∃ m, (tokAt c r).2 = c :: m ∧ m.length ≤ r.length := by
  unfold tokAt
  by_cases h1 : isD c = true
  · rw [if_pos h1]
    exact ⟨r.takeWhile isD, by simp [List.takeWhile_cons, h1], (List.takeWhile_sublist _).length_le⟩
  · rw [if_neg h1]
    by_cases h2 : isL c = true
    · rw [if_pos h2]
      exact ⟨r.takeWhile isW, by simp [List.takeWhile_cons, isW_of_L h2], (List.takeWhile_sublist _).length_le⟩
    · rw [if_neg h2]
      exact ⟨[], rfl, Nat.zero_le _⟩
def tkF : Nat → List Nat → List (Str × List Nat)
  | 0, _ => []
  | _, [] => []
  | n + 1, c :: r => if c = 32 then tkF n r else tokAt c r :: tkF n ((c :: r).drop (tokAt c r).2.length)
theorem tkF_fuel : ∀ (n m : Nat) (l : List Nat), l.length ≤ n → l.length ≤ m → tkF n l = tkF m l
  | 0, m, l, h, _ => by
    have : l = [] := List.length_eq_zero_iff.mp (Nat.le_zero.mp h)
    subst this
    cases m <;> rfl
  | n + 1, 0, l, _, h => by
    have : l = [] := List.length_eq_zero_iff.mp (Nat.le_zero.mp h)
    subst this
    rfl
  | n + 1, m + 1, [], _, _ => rfl
  | n + 1, m + 1, c :: r, h1, h2 => by
    simp only [tkF]
    simp only [List.length_cons] at h1 h2
    obtain ⟨w, e, hw⟩ := tokAt_ne c r
    rw [tkF_fuel n m r (by omega) (by omega), tkF_fuel n m _ (by rw [List.length_drop, e]; simp; omega) (by rw [List.length_drop, e]; simp; omega)]
def tk (l : List Nat) : List (Str × List Nat) := tkF l.length l
theorem tk_nil : tk [] = [] := rfl
theorem tk_space (r : List Nat) : tk (32 :: r) = tk r := by
  show tkF (r.length + 1) (32 :: r) = _
  simp [tkF, tk]
theorem tk_cons {c : Nat} (r : List Nat) (h : c ≠ 32) : tk (c :: r) = tokAt c r :: tk ((c :: r).drop (tokAt c r).2.length) := by
  show tkF (r.length + 1) (c :: r) = _
  simp only [tkF, if_neg h]
  obtain ⟨w, e, hw⟩ := tokAt_ne c r
  congr 1
  exact tkF_fuel _ _ _ (by rw [List.length_drop, e]; simp) (Nat.le_refl _)
theorem is_number_ok (l : List Nat) (hne : l ≠ []) (hl : l.length ≤ 50000) (st : Sto) : f__is_number [.str (mk l)] st = some (.bl (numOk l), st) := by
  refine run_ret rfl ?_
  have hL : (mk l).length ≤ LIM := by rw [mk_len]; exact Nat.le_trans hl (by decide)
  obtain ⟨c, r, rfl⟩ : ∃ c r, l = c :: r := by
    cases l with
    | nil => exact absurd rfl hne
    | cons c r => exact ⟨c, r, rfl⟩
  have ix := ix_str_at (i := 0) hL (show (cs (mk (c :: r)))[0]? = some c from rfl) st
  have hlen : ((mk (c :: r)).length : Int) = ((r.length + 1 : Nat) : Int) := by rw [mk_len, List.length_cons]
  have z0 : decide (mk [c] = Str.ofString "0") = decide (c = 48) := by
    have e : Str.ofString "0" = mk [48] := by decide +kernel
    rw [e]
    by_cases h : c = 48
    · subst h; simp
    · have h2 : ¬ mk [c] = mk [48] := fun q => h (by have := mk_inj.mp q; simpa using this)
      rw [decide_eq_false h, decide_eq_false h2]
  have ix' : ixO (.str (mk (c :: r))) (.int 0) st = some (.str (mk [c]), st) := ix
  unfold b__is_number numOk
  simp only [retS_eq, orF_eq, andF_eq, binF_eq, appF_eq, consF_eq, nilF_eq, varF_eq, cstF_eq, bnd_some, List.map_cons, List.map_nil, List.cons_append, List.getElem?_cons_zero, lenO_str, hL, if_true, eqO_int, truth_bl, Option.bind_some, ix', eqO_str, z0, hlen, List.length_cons, List.head?_cons]
  by_cases h1 : r.length = 0
  · simp [h1]
  · by_cases h2 : r.length = 1
    · by_cases h3 : c = 48
      · simp [h2, h3]
      · simp [h2, h3]
    · have a1 : ¬ ((r.length + 1 : Nat) : Int) = 1 := by omega
      have a2 : ¬ ((r.length + 1 : Nat) : Int) = 2 := by omega
      have a3 : ¬ r.length + 1 = 1 := by omega
      have a4 : ¬ r.length + 1 = 2 := by omega
      rw [decide_eq_false a1, decide_eq_false a2, decide_eq_false a3, decide_eq_false a4]
      rfl
theorem token_at_ok {pr pn : Fx} (hr : ∀ (x y : Str) (a : Nat) (st : Sto), x.length ≤ 50000 → a ≤ x.length → pr [.str x, .int (a : Nat), .str y] st = some (.str (mk (((cs x).drop a).takeWhile fun c => decide (c ∈ cs y))), st))
    (hn : ∀ (l : List Nat), l ≠ [] → l.length ≤ 50000 → ∀ st : Sto, pn [.str (mk l)] st = some (.bl (numOk l), st)) (x : Str) (a : Nat) (c : Nat) (r : List Nat) (hl : x.length ≤ 50000) (hd : (cs x).drop a = c :: r) (st : Sto) :
    f__token_at pr pn [.str x, .int (a : Nat)] st = some (tokD (tokAt c r), st) := by
  have hL : x.length ≤ LIM := Nat.le_trans hl (by decide)
  have hlen := len_cs x
  have ha : a < (cs x).length := by
    have h1 := congrArg List.length hd
    rw [List.length_drop, List.length_cons] at h1
    omega
  have hc : (cs x)[a]? = some c := by
    have e := List.drop_eq_getElem_cons ha
    rw [hd] at e
    injection e with e1 _
    rw [List.getElem?_eq_getElem ha, ← e1]
  have ix := ix_str_at hL hc
  have rl : r.length ≤ 50000 := by
    have h1 := congrArg List.length hd
    rw [List.length_drop, List.length_cons] at h1
    omega
  have L2' : (2 : Nat) ≤ LIM := by decide
  suffices q : ∃ d s, f__token_at pr pn [.str x, .int (a : Nat)] st = some (d, s) ∧ d = tokD (tokAt c r) ∧ s = st by
    obtain ⟨d, s, e, rfl, rfl⟩ := q
    exact e
  have inD : inO false (.str (mk [c])) c_DIGITS st = some (.bl (isD c), st) := in_str c "0123456789" st
  have inL : inO false (.str (mk [c])) c_LETTERS st = some (.bl (isL c), st) := in_str c "abcdefghijklmnopqrstuvwxyz" st
  have inS : inO false (.str (mk [c])) c_SIGNS st = some (.bl (isS c), st) := in_str c "+-*=<()" st
  refine wp_run rfl ?_
  unfold b__token_at
  by_cases h1 : isD c = true
  · refine wp_seq (wp_if (t := true) (st1 := st) (by simp only [cmpT_eq, binF_eq, varF_eq, cstF_eq, bnd_some, List.map_cons, List.map_nil, List.cons_append, List.getElem?_cons_zero, List.getElem?_cons_succ, ix, inD, truth_bl, Option.map_some, h1]) (fun _ => ?_) (fun e => by cases e))
    have e1 : pr [.str x, .int (a : Nat), c_DIGITS] st = some (.str (mk ((c :: r).takeWhile isD)), st) := by
      have := hr x "0123456789" a st hl (by omega)
      rw [hd] at this
      exact this
    refine wp_nx (σ1 := [some (.str x), some (.int (a : Nat)), some (.str (mk ((c :: r).takeWhile isD)))]) (st1 := st) (by simp [e1]) ?_
    have hne : (c :: r).takeWhile isD ≠ [] := by rw [List.takeWhile_cons, h1, if_pos rfl]; simp
    have hz : ((c :: r).takeWhile isD).length ≤ 50000 := Nat.le_trans (List.takeWhile_sublist _).length_le (by have := congrArg List.length hd; rw [List.length_drop] at this; omega)
    refine wp_ret (d := .tup [.str (if numOk ((c :: r).takeWhile isD) = true then "number" else "bad"), .str (mk ((c :: r).takeWhile isD))]) (st1 := st) ?_ ⟨by unfold tokAt tokD; rw [if_pos h1], rfl⟩
    by_cases h2 : numOk ((c :: r).takeWhile isD) = true
    · simp [hn _ hne hz, h2, LIM]
    · simp [hn _ hne hz, h2, LIM]
  · have h1' : isD c = false := by simpa using h1
    refine wp_seq (wp_if (t := false) (st1 := st) (by simp only [cmpT_eq, binF_eq, varF_eq, cstF_eq, bnd_some, List.map_cons, List.map_nil, List.cons_append, List.getElem?_cons_zero, List.getElem?_cons_succ, ix, inD, truth_bl, Option.map_some, h1']) (fun e => by cases e) (fun _ => wp_skip ?_))
    by_cases h2 : isL c = true
    · refine wp_seq (wp_if (t := true) (st1 := st) (by simp only [cmpT_eq, binF_eq, varF_eq, cstF_eq, bnd_some, List.map_cons, List.map_nil, List.cons_append, List.getElem?_cons_zero, List.getElem?_cons_succ, ix, inL, truth_bl, Option.map_some, h2]) (fun _ => ?_) (fun e => by cases e))
      have cat : addO c_LETTERS c_DIGITS st = some (.str (("abcdefghijklmnopqrstuvwxyz" : Str) ++ ("0123456789" : Str)), st) := by
        have : (Str.ofString "abcdefghijklmnopqrstuvwxyz").length + (Str.ofString "0123456789").length ≤ LIM := by decide +kernel
        exact (addO_str).trans (if_pos this)
      have e1 : pr [.str x, .int (a : Nat), .str (("abcdefghijklmnopqrstuvwxyz" : Str) ++ ("0123456789" : Str))] st = some (.str (mk ((c :: r).takeWhile isW)), st) := by
        have := hr x (("abcdefghijklmnopqrstuvwxyz" : Str) ++ ("0123456789" : Str)) a st hl (by omega)
        rw [hd, cs_app] at this
        exact this
      refine wp_nx (σ1 := [some (.str x), some (.int (a : Nat)), some (.str (mk ((c :: r).takeWhile isW)))]) (st1 := st) (by simp [cat, e1]) ?_
      have hz : ((c :: r).takeWhile isW).length ≤ 50000 := Nat.le_trans (List.takeWhile_sublist _).length_le (by have := congrArg List.length hd; rw [List.length_drop] at this; omega)
      have hz2 : (mk ((c :: r).takeWhile isW)).length ≤ LIM := by rw [mk_len]; exact Nat.le_trans hz (by decide)
      refine wp_ret (d := .tup [.str (if ((c :: r).takeWhile isW).length ≤ 8 then "word" else "bad"), .str (mk ((c :: r).takeWhile isW))]) (st1 := st) ?_ ⟨by unfold tokAt tokD; rw [if_neg h1, if_pos h2], rfl⟩
      have cmp : leO (.int (mk ((c :: r).takeWhile isW)).length) c_LONGEST_WORD st = some (.bl (decide (((c :: r).takeWhile isW).length ≤ 8)), st) := by
        rw [mk_len]
        show leO (.int _) (.int 8) st = _
        rw [leO_int]
        by_cases h : ((c :: r).takeWhile isW).length ≤ 8
        · have h' : (((c :: r).takeWhile isW).length : Int) ≤ 8 := by omega
          rw [decide_eq_true h, decide_eq_true h']
        · have h' : ¬ (((c :: r).takeWhile isW).length : Int) ≤ 8 := by omega
          rw [decide_eq_false h, decide_eq_false h']
      by_cases h3 : ((c :: r).takeWhile isW).length ≤ 8
      · simp only [tupF_eq, consF_eq, nilF_eq, ifF_eq, cmpT_eq, binF_eq, appF_eq, varF_eq, cstF_eq, bnd_some, List.getElem?_cons_zero, List.getElem?_cons_succ, lenO_str, hz2, if_true, cmp, truth_bl, Option.map_some, decide_eq_true h3, List.length_cons, List.length_nil, Nat.zero_add, L2', if_pos h3]
      · simp only [tupF_eq, consF_eq, nilF_eq, ifF_eq, cmpT_eq, binF_eq, appF_eq, varF_eq, cstF_eq, bnd_some, List.getElem?_cons_zero, List.getElem?_cons_succ, lenO_str, hz2, if_true, cmp, truth_bl, Option.map_some, decide_eq_false h3, List.length_cons, List.length_nil, Nat.zero_add, L2', if_neg h3, Bool.false_eq_true, if_false]
    · have h2' : isL c = false := by simpa using h2
      refine wp_seq (wp_if (t := false) (st1 := st) (by simp only [cmpT_eq, binF_eq, varF_eq, cstF_eq, bnd_some, List.map_cons, List.map_nil, List.cons_append, List.getElem?_cons_zero, List.getElem?_cons_succ, ix, inL, truth_bl, Option.map_some, h2']) (fun e => by cases e) (fun _ => wp_skip ?_))
      refine wp_ret (d := .tup [.str (if isS c = true then "sign" else "bad"), .str (mk [c])]) (st1 := st) ?_ ⟨by unfold tokAt tokD; rw [if_neg h1, if_neg h2], rfl⟩
      by_cases h3 : isS c = true
      · simp only [tupF_eq, consF_eq, nilF_eq, ifF_eq, cmpT_eq, binF_eq, varF_eq, cstF_eq, bnd_some, List.map_cons, List.map_nil, List.cons_append, List.getElem?_cons_zero, List.getElem?_cons_succ, ix, inS, truth_bl, Option.map_some, h3, if_true, List.length_cons, List.length_nil, Nat.zero_add, L2']
      · have h3' : isS c = false := by simpa using h3
        simp only [tupF_eq, consF_eq, nilF_eq, ifF_eq, cmpT_eq, binF_eq, varF_eq, cstF_eq, bnd_some, List.map_cons, List.map_nil, List.cons_append, List.getElem?_cons_zero, List.getElem?_cons_succ, ix, inS, truth_bl, Option.map_some, h3', if_true, List.length_cons, List.length_nil, Nat.zero_add, L2', Bool.false_eq_true, if_false]
theorem tokens_ok {pt : Fx} (hp : ∀ (x : Str) (a : Nat) (c : Nat) (r : List Nat), x.length ≤ 50000 → (cs x).drop a = c :: r → ∀ st : Sto, pt [.str x, .int (a : Nat)] st = some (tokD (tokAt c r), st)) (x : Str) (hl : x.length ≤ 50000) (st : Sto) :
    f_tokens pt [.str x] st = some (.loc st.length, st ++ [.lst ((tk (cs x)).map tokD)]) := by
  suffices q : ∃ d s, f_tokens pt [.str x] st = some (d, s) ∧ d = .loc st.length ∧ s = st ++ [.lst ((tk (cs x)).map tokD)] by
    obtain ⟨d, s, e, rfl, rfl⟩ := q
    exact e
  have hL : x.length ≤ LIM := Nat.le_trans hl (by decide)
  have hlen := len_cs x
  have gm : ∀ xs, getM (st ++ [.lst xs]) st.length = some xs := fun xs => getM_of (by simp)
  have gl : ∀ xs, getL (st ++ [.lst xs]) st.length = some xs := fun xs => getL_of (by simp)
  have ss : ∀ xs ys, (st ++ [OB.lst xs]).set st.length (.lst ys) = st ++ [.lst ys] := fun xs ys => by simp
  refine wp_run rfl ?_
  unfold b_tokens
  refine wp_nx (σ1 := [some (.str x), some (.loc st.length), none, none]) (st1 := st ++ [.lst []]) (by simp) ?_
  refine wp_nx (σ1 := [some (.str x), some (.loc st.length), some (.int ((0 : Nat) : Int)), none]) (st1 := st ++ [.lst []]) (by simp) ?_
  refine wp_seq (wp_while (fun σ s => ∃ (a : Nat) (done : List (Str × List Nat)) (x3 : Option D), a ≤ x.length ∧ done.length ≤ a ∧ s = st ++ [.lst (done.map tokD)] ∧ σ = [some (.str x), some (.loc st.length), some (.int (a : Nat)), x3] ∧ tk (cs x) = done ++ tk ((cs x).drop a))
    (fun σ s => match σ with
      | [_, _, some (.int e), _] => x.length - e.toNat
      | _ => 0) ⟨0, [], none, Nat.zero_le _, Nat.le_refl _, rfl, rfl, rfl⟩ (by show x.length - ((0 : Nat) : Int).toNat < 100000; omega) ?_)
  rintro σ s ⟨a, done, x3, h1, h2, rfl, rfl, h3⟩
  by_cases hlt : a < x.length
  · refine ⟨true, st ++ [.lst (done.map tokD)], ?_, fun _ => ?_, (fun h => by cases h)⟩
    · have : ((a : Nat) : Int) < (x.length : Int) := by omega
      simp only [cmpT_eq, binF_eq, varF_eq, appF_eq, consF_eq, nilF_eq, bnd_some, List.getElem?_cons_zero, List.getElem?_cons_succ, lenO_str, hL, if_true, ltO_int, truth_bl, Option.map_some, this, decide_true]
    · obtain ⟨c, hc⟩ : ∃ c, (cs x)[a]? = some c := ⟨(cs x)[a]'(by omega), List.getElem?_eq_getElem _⟩
      have hd : (cs x).drop a = c :: (cs x).drop (a + 1) := by
        rw [List.drop_eq_getElem_cons (by omega)]
        congr 1
        exact (List.getElem?_eq_some_iff.mp hc).2
      have ix := ix_str_at hL hc
      refine wp_if (t := decide (c = 32)) (st1 := st ++ [.lst (done.map tokD)]) ?_ (fun h => ?_) (fun h => ?_)
      · simp only [cmpT_eq, binF_eq, varF_eq, cstF_eq, bnd_some, List.getElem?_cons_zero, List.getElem?_cons_succ, ix, eqO_str, space_eq, truth_bl, Option.map_some, Bool.bne_false]
      · have hc32 : c = 32 := of_decide_eq_true h
        subst hc32
        refine wp_ok (r := .nx [some (.str x), some (.loc st.length), some (.int ((a + 1 : Nat) : Int)), x3]) (st := st ++ [.lst (done.map tokD)]) (by simp) ⟨⟨a + 1, done, x3, hlt, by omega, rfl, rfl, by rw [h3, hd, tk_space]⟩, ?_⟩
        show x.length - ((a + 1 : Nat) : Int).toNat < x.length - ((a : Nat) : Int).toNat
        omega
      · have hc32 : ¬ c = 32 := of_decide_eq_false h
        have et := hp x a c _ hl hd (st ++ [.lst (done.map tokD)])
        refine wp_nx (σ1 := [some (.str x), some (.loc st.length), some (.int (a : Nat)), some (tokD (tokAt c ((cs x).drop (a + 1))))]) (st1 := st ++ [.lst (done.map tokD)]) (by simp [et]) ?_
        obtain ⟨w, ew, hw⟩ := tokAt_ne c ((cs x).drop (a + 1))
        rw [List.length_drop] at hw
        have hdl : (done.map tokD).length < LIM := by rw [List.length_map]; show done.length < 1000000; omega
        refine wp_nx (σ1 := [some (.str x), some (.loc st.length), some (.int (a : Nat)), some (tokD (tokAt c ((cs x).drop (a + 1))))]) (st1 := st ++ [.lst ((done ++ [tokAt c ((cs x).drop (a + 1))]).map tokD)]) ?_ ?_
        · simp only [exS_eq, bmF_eq, varF_eq, bnd_some, List.getElem?_cons_zero, List.getElem?_cons_succ, isTy_list, gl, Option.isSome_some, if_true, consF_eq, nilF_eq, appendO_eq, gm, hdl, ss, List.map_append, List.map_cons, List.map_nil]
        · have i1 : ∀ (u v : D), atI [u, v] 1 = some v := fun _ _ => rfl
          have hz : (mk (tokAt c ((cs x).drop (a + 1))).2).length ≤ LIM := by rw [mk_len, ew, List.length_cons]; show w.length + 1 ≤ 1000000; omega
          have hn : ((a : Nat) : Int) + ((mk (tokAt c ((cs x).drop (a + 1))).2).length : Int) = ((a + (w.length + 1) : Nat) : Int) := by rw [mk_len, ew, List.length_cons]; omega
          refine wp_ok (r := .nx [some (.str x), some (.loc st.length), some (.int ((a + (w.length + 1) : Nat) : Int)), some (tokD (tokAt c ((cs x).drop (a + 1))))]) (st := st ++ [.lst ((done ++ [tokAt c ((cs x).drop (a + 1))]).map tokD)]) ?_ ⟨⟨a + (w.length + 1), _, _, by omega, by rw [List.length_append, List.length_singleton]; omega, rfl, rfl, ?_⟩, ?_⟩
          · simp only [augS_eq, appF_eq, consF_eq, nilF_eq, binF_eq, varF_eq, cstF_eq, bnd_some, List.getElem?_cons_zero, List.getElem?_cons_succ, tokD, ixO_tup, i1, Option.map_some, lenO_str, hz, if_true, iaddO_int, hn, List.set_cons_succ, List.set_cons_zero]
          · rw [h3, hd, tk_cons _ hc32, List.append_assoc, List.singleton_append]
            congr 2
            rw [ew, List.length_cons, ← hd, List.drop_drop]
          · show x.length - ((a + (w.length + 1) : Nat) : Int).toNat < x.length - ((a : Nat) : Int).toNat
            omega
  · refine ⟨false, st ++ [.lst (done.map tokD)], ?_, (fun h => by cases h), fun _ => ?_⟩
    · have : ¬ ((a : Nat) : Int) < (x.length : Int) := by omega
      simp only [cmpT_eq, binF_eq, varF_eq, appF_eq, consF_eq, nilF_eq, bnd_some, List.getElem?_cons_zero, List.getElem?_cons_succ, lenO_str, hL, if_true, ltO_int, truth_bl, Option.map_some, this, decide_false]
    · refine wp_ret (d := .loc st.length) (st1 := st ++ [.lst (done.map tokD)]) (by simp) ⟨rfl, ?_⟩
      rw [h3, List.drop_eq_nil_of_le (by omega), tk_nil, List.append_nil]
/-! L9q.lean -/
/-! ### equality of lists of tokens -/
def tDn (t : Str × List Nat) : PyData := .tuple [.str t.1, .str (mk t.2)]
def okT (ts : List (Str × List Nat)) : Prop := ∀ t ∈ ts, PyData.strOk t.1 = true ∧ PyData.strOk (mk t.2) = true
theorem tDn_lay (t : Str × List Nat) (h : PyData.strOk t.1 = true ∧ PyData.strOk (mk t.2) = true) : (tDn t).canLay0 = true := by simp [tDn, PyData.canLay0, PyData.canLayAll0, h.1, h.2]
theorem tDn_depth (t : Str × List Nat) : (tDn t).depth = 1 := by simp [tDn, PyData.depth, PyData.depthAll]
theorem tDns_lay : ∀ ts : List (Str × List Nat), okT ts → PyData.canLayAll0 (ts.map tDn) = true
  | [], _ => by simp [PyData.canLayAll0]
  | t :: ts, h => by
    have h1 := tDn_lay t (h t List.mem_cons_self)
    have h2 := tDns_lay ts fun u hu => h u (List.mem_cons_of_mem _ hu)
    simp [PyData.canLayAll0, h1, h2]
theorem tDns_depth : ∀ ts : List (Str × List Nat), PyData.depthAll (ts.map tDn) ≤ 1
  | [] => by simp [PyData.depthAll]
  | t :: ts => by
    have h1 := tDns_depth ts
    have h2 := tDn_depth t
    simp only [List.map_cons, PyData.depthAll]
    omega
theorem tDns_shaped (ts : List (Str × List Nat)) (h : okT ts) : SeqAt.shaped (.list (ts.map tDn)) = true := by
  have h1 := tDns_depth ts
  unfold SeqAt.shaped
  rw [Bool.and_eq_true]
  refine ⟨?_, decide_eq_true ?_⟩
  · simp only [PyData.canLay0]; exact tDns_lay ts h
  · simp only [PyData.depth]; omega
theorem tDn_eqv (t u : Str × List Nat) : PyData.eqv (tDn t) (tDn u) = decide (t = u) := by
  obtain ⟨a, b⟩ := t
  obtain ⟨c, d⟩ := u
  simp only [tDn, PyData.eqv, PyData.eqvAll, Bool.and_true]
  by_cases h : (a, b) = (c, d)
  · cases h; simp
  · rw [decide_eq_false h]
    by_cases h1 : a = c
    · subst h1
      have h2 : ¬ mk b = mk d := fun e => h (by rw [mk_inj.mp e])
      rw [beq_eq_false_iff_ne.mpr h2, Bool.and_false]
    · rw [beq_eq_false_iff_ne.mpr h1, Bool.false_and]
theorem tDns_eqv : ∀ (ts us : List (Str × List Nat)), PyData.eqvAll (ts.map tDn) (us.map tDn) = decide (ts = us)
  | [], [] => by simp [PyData.eqvAll]
  | [], _ :: _ => by simp [PyData.eqvAll]
  | _ :: _, [] => by simp [PyData.eqvAll]
  | t :: ts, u :: us => by
    simp only [List.map_cons, PyData.eqvAll, tDn_eqv, tDns_eqv ts us]
    by_cases h1 : t = u
    · by_cases h2 : ts = us <;> simp [h1, h2]
    · simp [h1]
theorem py_tok (st : Sto) (n : Nat) (t : Str × List Nat) : py st n (tokD t) = some (tDn t) := by
  simp only [tokD, py, pys, Option.map_some, tDn]
theorem pys_tok (st : Sto) (n : Nat) : ∀ ts : List (Str × List Nat), pys st n (ts.map tokD) = some (ts.map tDn)
  | [] => by simp only [List.map_nil, pys]
  | t :: ts => by simp only [List.map_cons, pys, py_tok, pys_tok st n ts]
theorem eq_toks {st : Sto} {k l : Nat} {ts us : List (Str × List Nat)} (h1 : getL st k = some (ts.map tokD)) (h2 : getL st l = some (us.map tokD)) (o1 : okT ts) (o2 : okT us) (neg : Bool) : eqO neg (.loc k) (.loc l) st = some (.bl (decide (ts = us) != neg), st) := by
  have p1 : py st 60 (.loc k) = some (.list (ts.map tDn)) := by simp only [py, h1, pys_tok, Option.map_some]
  have p2 : py st 60 (.loc l) = some (.list (us.map tDn)) := by simp only [py, h2, pys_tok, Option.map_some]
  unfold eqO
  simp only [eqS, p1, p2, tDns_shaped ts o1, tDns_shaped us o2, and_self, if_true, PyData.eqv, tDns_eqv]
/-! ### names -/
def nameB (l : List Nat) : Bool := match l with
  | [] => false
  | c :: r => isL c && (c :: r).all isW && decide ((c :: r).length ≤ 8)
theorem tk_sub : ∀ (n : Nat) (l : List Nat) (t : Str × List Nat), t ∈ tkF n l → PyData.strOk t.1 = true ∧ ∀ c ∈ t.2, c ∈ l
  | 0, l, t, h => by cases h
  | n + 1, [], t, h => by cases h
  | n + 1, c :: r, t, h => by
    simp only [tkF] at h
    split at h
    · obtain ⟨h1, h2⟩ := tk_sub n r t h
      exact ⟨h1, fun d hd => List.mem_cons_of_mem _ (h2 d hd)⟩
    · rcases List.mem_cons.mp h with h | h
      · rw [h]
        unfold tokAt
        by_cases h1 : isD c = true
        · rw [if_pos h1]
          refine ⟨?_, fun d hd => (List.takeWhile_sublist _).subset hd⟩
          by_cases h2 : numOk ((c :: r).takeWhile isD) = true
          · simp only [h2, if_true]; decide +kernel
          · simp only [h2, if_false]; decide +kernel
        · rw [if_neg h1]
          by_cases h2 : isL c = true
          · rw [if_pos h2]
            refine ⟨?_, fun d hd => (List.takeWhile_sublist _).subset hd⟩
            by_cases h3 : ((c :: r).takeWhile isW).length ≤ 8
            · simp only [h3, if_true]; decide +kernel
            · simp only [h3, if_false]; decide +kernel
          · rw [if_neg h2]
            refine ⟨?_, fun d hd => by rw [List.mem_singleton.mp hd]; exact List.mem_cons_self⟩
            by_cases h3 : isS c = true
            · simp only [h3, if_true]; decide +kernel
            · simp only [h3, if_false]; decide +kernel
      · obtain ⟨h1, h2⟩ := tk_sub n _ t h
        exact ⟨h1, fun d hd => List.mem_of_mem_drop (h2 d hd)⟩
def okS (x : Str) : Prop := ∀ c ∈ cs x, c < 0x110000
theorem strOk_mk {l : List Nat} (h : ∀ c ∈ l, c < 0x110000) : PyData.strOk (mk l) = true := by
  unfold PyData.strOk mk
  rw [Array.all_eq_true]
  intro i hi
  exact decide_eq_true (h _ (by simp))
theorem ok_tk {x : Str} (h : okS x) : okT (tk (cs x)) := fun t ht => by
  obtain ⟨h1, h2⟩ := tk_sub _ _ t ht
  exact ⟨h1, strOk_mk fun c hc => h c (h2 c hc)⟩
theorem tk_len : ∀ (n : Nat) (l : List Nat) (t : Str × List Nat), t ∈ tkF n l → t.2.length ≤ l.length
  | 0, l, t, h => by cases h
  | n + 1, [], t, h => by cases h
  | n + 1, c :: r, t, h => by
    simp only [tkF] at h
    split at h
    · have := tk_len n r t h
      simp; omega
    · obtain ⟨w, e, hw⟩ := tokAt_ne c r
      rcases List.mem_cons.mp h with h | h
      · rw [h, e]; simp; exact hw
      · have := tk_len n _ t h
        rw [List.length_drop] at this
        omega
theorem notD_of_L {c : Nat} (h : isL c = true) : isD c = false := by
  unfold isL at h; unfold isD
  rw [letL_eq] at h
  rw [digL_eq]
  simp only [decide_eq_true_eq, List.mem_cons, List.not_mem_nil, or_false] at h
  apply decide_eq_false
  simp only [List.mem_cons, List.not_mem_nil, or_false]
  omega
theorem ns_of_L {c : Nat} (h : isL c = true) : c ≠ 32 := by
  unfold isL at h
  rw [letL_eq] at h
  simp only [decide_eq_true_eq, List.mem_cons, List.not_mem_nil, or_false] at h
  omega
theorem tw_all {p : Nat → Bool} : ∀ {l : List Nat}, l.all p = true → l.takeWhile p = l
  | [], _ => rfl
  | c :: r, h => by
    simp only [List.all_cons, Bool.and_eq_true] at h
    rw [List.takeWhile_cons, h.1, if_pos rfl, tw_all h.2]
theorem all_tw {p : Nat → Bool} : ∀ {l : List Nat}, l.takeWhile p = l → l.all p = true
  | [], _ => rfl
  | c :: r, h => by
    rw [List.takeWhile_cons] at h
    by_cases hc : p c = true
    · rw [if_pos hc] at h
      injection h with _ h2
      simp [hc, all_tw h2]
    · rw [if_neg hc] at h
      cases h
theorem tk_name (l : List Nat) : decide (tk l = [((("word" : Str), l) : Str × List Nat)]) = nameB l := by
  cases l with
  | nil => simp [tk_nil, nameB]
  | cons c r =>
    by_cases h : nameB (c :: r) = true
    · rw [h]
      apply decide_eq_true
      simp only [nameB, Bool.and_eq_true, decide_eq_true_eq] at h
      obtain ⟨⟨h1, h2⟩, h3⟩ := h
      rw [tk_cons r (ns_of_L h1)]
      have e : tokAt c r = ((("word" : Str), c :: r) : Str × List Nat) := by
        unfold tokAt
        rw [if_neg (by rw [notD_of_L h1]; simp), if_pos h1, tw_all h2, if_pos h3]
      rw [e, List.drop_length, tk_nil]
    · have hf : nameB (c :: r) = false := by simpa using h
      rw [hf]
      apply decide_eq_false
      intro e
      by_cases hc : c = 32
      · subst hc
        rw [tk_space] at e
        have hm : ((("word" : Str), 32 :: r) : Str × List Nat) ∈ tk r := by rw [e]; exact List.mem_singleton.mpr rfl
        have := tk_len _ _ _ hm
        simp at this
        omega
      · rw [tk_cons r hc] at e
        injection e with e1 _
        apply h
        unfold tokAt at e1
        by_cases h1 : isD c = true
        · rw [if_pos h1] at e1
          have e2 := congrArg Prod.fst e1
          by_cases h2 : numOk ((c :: r).takeWhile isD) = true
          · simp [h2, ofs_inj] at e2
          · simp [h2, ofs_inj] at e2
        · rw [if_neg h1] at e1
          by_cases h2 : isL c = true
          · rw [if_pos h2] at e1
            have e2 := congrArg Prod.fst e1
            have e3 := congrArg Prod.snd e1
            simp only at e2 e3
            by_cases h3 : ((c :: r).takeWhile isW).length ≤ 8
            · rw [e3] at h3
              simp only [nameB, h2, Bool.true_and, Bool.and_eq_true, decide_eq_true_eq]
              exact ⟨all_tw e3, h3⟩
            · rw [if_neg h3] at e2
              simp [ofs_inj] at e2
          · rw [if_neg h2] at e1
            have e2 := congrArg Prod.fst e1
            by_cases h3 : isS c = true
            · simp [h3, ofs_inj] at e2
            · simp [h3, ofs_inj] at e2
def resL : List D := [.str "var", .str "lock", .str "cond", .str "of", .str "queue", .str "thread", .str "let", .str "get", .str "put", .str "add", .str "unlock", .str "wait", .str "notify", .str "all", .str "send", .str "take", .str "check", .str "go", .str "if", .str "begin", .str "end", .str "stop", .str "and", .str "or", .str "not"]
def regL : List D := [.str "a", .str "b", .str "c", .str "d"]
def okName (x : Str) : Bool := nameB (cs x) && !inF (.str x) regL && !inF (.str x) resL
theorem is_name_ok {pt : Fx} (hp : ∀ (x : Str) (st : Sto), x.length ≤ 50000 → pt [.str x] st = some (.loc st.length, st ++ [.lst ((tk (cs x)).map tokD)])) (x : Str) (hl : x.length ≤ 50000) (hx : okS x) (st : Sto) : ∃ st2, f_is_name pt [.str x] st = some (.bl (okName x), st2) ∧ Ext st st2 := by
  refine ⟨st ++ [OB.lst ((tk (cs x)).map tokD)] ++ [OB.lst ([((("word" : Str), cs x) : Str × List Nat)].map tokD)], run_ret rfl ?_, (Ext.app _).trans (Ext.app _)⟩
  have g1 : getL (st ++ [OB.lst ((tk (cs x)).map tokD)] ++ [OB.lst ([((("word" : Str), cs x) : Str × List Nat)].map tokD)]) st.length = some ((tk (cs x)).map tokD) := Ext.getL (Ext.app _) (getL_of (by simp))
  have g2 : getL (st ++ [OB.lst ((tk (cs x)).map tokD)] ++ [OB.lst ([((("word" : Str), cs x) : Str × List Nat)].map tokD)]) (st ++ [OB.lst ((tk (cs x)).map tokD)]).length = some ([((("word" : Str), cs x) : Str × List Nat)].map tokD) := getL_of (by simp)
  have q := eq_toks g1 g2 (ok_tk hx) (fun t ht => by rw [List.mem_singleton.mp ht]; exact ⟨show PyData.strOk (Str.ofString "word") = true by decide +kernel, strOk_mk hx⟩) false
  rw [tk_name, Bool.bne_false] at q
  have ew : [D.tup [.str "word", .str x]] = [((("word" : Str), cs x) : Str × List Nat)].map tokD := by simp [tokD, mk_cs]
  have L1 : (1 : Nat) ≤ LIM := by decide
  have L2' : (2 : Nat) ≤ LIM := by decide
  have i1 : ∀ st : Sto, inO true (.str x) c_REGISTERS st = some (.bl (!inF (.str x) regL), st) := fun st => by
    show inO true (.str x) (.tup regL) st = _
    have : regL.all scalD = true := by decide
    simp only [inO, this, scalD, and_self, if_true, Bool.bne_true]
  have i2 : ∀ st : Sto, inO true (.str x) c_RESERVED st = some (.bl (!inF (.str x) resL), st) := fun st => by
    show inO true (.str x) (.tup resL) st = _
    have : resL.all scalD = true := by decide
    simp only [inO, this, scalD, and_self, if_true, Bool.bne_true]
  unfold b_is_name okName
  simp only [retS_eq, andF_eq, binF_eq, callF_eq, consF_eq, nilF_eq, varF_eq, cstF_eq, lstF_eq, tupF_eq, bnd_some, List.map_cons, List.map_nil, List.cons_append, List.getElem?_cons_zero, hp x _ hl, List.length_cons, List.length_nil, Nat.zero_add, L1, L2', if_true]
  simp only [List.map_cons, List.map_nil, tokD, mk_cs] at q
  simp only [tokD, List.map_cons, List.map_nil, mk_cs] at q ⊢
  rw [q]
  simp only [bnd_some, truth_bl, Option.bind_some, i1, i2]
  cases nameB (cs x) with
  | false => simp
  | true =>
    cases inF (.str x) regL with
    | false => simp
    | true => simp
/-! N2.lean -/
/-! ### k53: the lock around a span -/
def gD : Option (Nat × Nat) → D
  | none => .non
  | some p => .tup [.int (p.1 : Nat), .int (p.2 : Nat)]
def mvI (b : Nat) (i : I52) : I52 := match i.r with
  | [.int k, t] => if i.w = "go" then (if k ≤ (b : Int) then i else ⟨"go", [.int (k + 2), t]⟩) else i
  | _ => i
theorem mv_no {b : Nat} {i : I52} (h : i.w ≠ "go") : mvI b i = i := by
  unfold mvI
  split
  · rw [if_neg h]
  · rfl
theorem mv_go {b : Nat} {k : Int} {t : D} : mvI b ⟨"go", [.int k, t]⟩ = if k ≤ (b : Int) then ⟨"go", [.int k, t]⟩ else ⟨"go", [.int (k + 2), t]⟩ := by
  unfold mvI
  simp only [if_true]
theorem led_past_ok {i : I52} (h : Gd52 i) (b : Nat) (s : Sto) : Rt s f__led_past [i.d, .int b] (mvI b i).d := by
  refine Rt.run rfl ?_
  show Es s b__led_past [some i.d, some (.int b)] _
  unfold b__led_past
  by_cases hw : i.w = "go"
  · obtain ⟨k, t, rfl⟩ := go_shape h hw
    rw [mv_go]
    have c : Et s (orT (cmpT (eqO true) (binF ixO (varF 0) (cstF (.int 0))) (cstF (.str "go"))) (cmpT leO (binF ixO (varF 0) (cstF (.int 1))) (varF 1))) [some (I52.d ⟨"go", [.int k, t]⟩), some (.int b)] (!decide (("go" : Str) = "go") || decide (k ≤ (b : Int))) :=
      Et.or (Et.cmp (Ev.bin (Ev.var rfl) Ev.cst ix0_id) Ev.cst o_ness) fun _ => Et.cmp (Ev.bin (Ev.var rfl) Ev.cst o_ix1) (Ev.var rfl) o_le
    by_cases hk : k ≤ (b : Int)
    · rw [if_pos hk]
      exact Es.seqRT c (by simp [hk]) (Ev.var rfl)
    · rw [if_neg hk]
      refine Es.seqRF c (by simp [hk]) (Es.ret (Ev.tup (Ea.cons Ev.cst (Ea.cons (Ev.bin (Ev.bin (Ev.var rfl) Ev.cst o_ix1) Ev.cst o_add) (Ea.cons (Ev.bin (Ev.var rfl) Ev.cst o_ix2) Ea.nil))) rfl))
  · rw [mv_no hw]
    have c : Et s (orT (cmpT (eqO true) (binF ixO (varF 0) (cstF (.int 0))) (cstF (.str "go"))) (cmpT leO (binF ixO (varF 0) (cstF (.int 1))) (varF 1))) [some i.d, some (.int b)] (!decide (i.w = "go") || true) :=
      Et.or (Et.cmp (Ev.bin (Ev.var rfl) Ev.cst ix0_id) Ev.cst o_ness) fun h => by rw [decide_eq_false hw] at h; cases h
    exact Es.seqRT c (by simp) (Ev.var rfl)
def lk (x : Str) : I52 := ⟨"lock", [.str x]⟩
def ul (x : Str) : I52 := ⟨"unlock", [.str x]⟩
def cf (M : List I52) (a b : Nat) (x : Str) : List I52 := M.take a ++ [lk x] ++ (M.drop a).take (b + 1 - a) ++ [ul x] ++ M.drop (b + 1)
def wl (c : List I52) (g : Option (Nat × Nat)) (x : Str) : List I52 := match g with
  | none => c
  | some (a, b) => cf (c.map (mvI b)) a b x
def fitB (c : List I52) (g : Option (Nat × Nat)) : Bool := match g with
  | none => true
  | some (a, b) => (decide (a ≤ b) && decide (b < c.length)) && grd c a b
theorem cf_len {M : List I52} {a b : Nat} {x : Str} (h1 : a ≤ b) (h2 : b < M.length) : (cf M a b x).length = M.length + 2 := by
  unfold cf
  simp only [List.length_append, List.length_take, List.length_drop, List.length_cons, List.length_nil]
  omega
theorem with_lock_ok {c : List I52} (hc : ∀ i ∈ c, Gd52 i) (hl : c.length ≤ 100) {g : Option (Nat × Nat)} (hg : fitB c g = true) (x : Str) (s : Sto) : Rt s (f__with_lock f__led_past) [cdG c, gD g, .str x] (cdG (wl c g x)) := by
  cases g with
  | none =>
    refine Rt.run rfl ?_
    show Es s (b__with_lock f__led_past) ([cdG c, .non, .str x].map some ++ _) _
    unfold b__with_lock
    exact Es.seqRT (Et.cmp (Ev.var rfl) Ev.cst o_isNn) rfl (Ev.var rfl)
  | some p =>
    obtain ⟨a, b⟩ := p
    obtain ⟨h1, h2⟩ : a ≤ b ∧ b < c.length := by
      simp only [fitB, Bool.and_eq_true, decide_eq_true_eq] at hg
      exact hg.1
    intro st k
    suffices w : ∃ d s2, f__with_lock f__led_past [cdG c, gD (some (a, b)), .str x] st = some (d, s2) ∧ d = cdG (wl c (some (a, b)) x) ∧ Ext st s2 by
      obtain ⟨d, s2, e, rfl, x⟩ := w
      exact ⟨s2, e, x⟩
    refine wp_run rfl ?_
    have hsl : List.map some [cdG c, gD (some (a, b)), .str x] ++ List.replicate (10 - 3) none = [some (cdG c), some (gD (some (a, b))), some (.str x), none, none, none, none, none, none, none] := rfl
    rw [hsl]
    unfold b__with_lock
    refine wp_seq (wp_ifE (b := false) (Et.cmp (Ev.var rfl) Ev.cst o_isNt) (fun h => by cases h) (fun _ s1 x1 => wp_skip ?_))
    refine wp_esE (Es.asg2 (Ev.var rfl)) fun s2 x2 => ?_
    refine wp_asL (Ev.compM (L := c) (fd := I52.d) (fun i => some (mvI b i).d) (Ei.tup (Ev.var rfl)) (Nat.le_trans hl (by decide)) fun i hi => ⟨_, rfl, fun st _ => ⟨st, rfl, Ext.refl⟩, fun y ey => by cases ey; exact Ev.call (Ea.cons (Ev.var rfl) (Ea.cons (Ev.var rfl) Ea.nil)) (led_past_ok (hc i hi) b s2)⟩) fun s3 n x3 g3 => ?_
    have eM : (c.filterMap fun i => some (mvI b i).d) = (c.map (mvI b)).map I52.d := by simp
    rw [eM] at g3
    have hM : ((c.map (mvI b)).map I52.d).length = c.length := by simp
    let σ0 : Sl := [some (cdG c), some (gD (some (a, b))), some (.str x), some (.int (a : Nat)), some (.int (b : Nat)), some (.loc n), none, none, none, none]
    have b1 : Ev s3 (binF addO (varF 4) (cstF (.int 1))) σ0 (.int ((b + 1 : Nat) : Int)) := Ev.bin (Ev.var rfl) Ev.cst o_add
    have v5 : ∀ st, Ext s3 st → ∃ st2 m, varF 5 σ0 st = some (.loc m, st2) ∧ Ext st st2 ∧ getL st2 m = some ((c.map (mvI b)).map I52.d) := fun st k => ⟨st, n, rfl, Ext.refl, k.getL g3⟩
    obtain ⟨s4, n4, e4, x4, g4⟩ := Lv.cut (l := none) v5 Eo.none (Eo.some (f := varF 3) (v := (a : Nat)) (Ev.var rfl)) s3 Ext.refl
    obtain ⟨s5, n5, e5, x5, g5⟩ := Lv.cut v5 (Eo.some (f := varF 3) (v := (a : Nat)) (Ev.var rfl)) (Eo.some b1) s4 x4
    obtain ⟨s6, n6, e6, x6, g6⟩ := Lv.cut (u := none) v5 (Eo.some b1) Eo.none s5 (x4.trans x5)
    rw [cut_lo (by omega), ← List.map_take] at g4
    rw [cut_mid (by omega) (by omega), ← List.map_drop, ← List.map_take] at g5
    rw [cut_hi (by omega), ← List.map_drop] at g6
    refine wp_nx (σ1 := [some (cdG c), some (gD (some (a, b))), some (.str x), some (.int (a : Nat)), some (.int (b : Nat)), some (.loc n), none, some (.loc n4), some (.loc n5), some (.loc n6)]) (st1 := s6) ?_ ?_
    · have e4' : slF cutO (varF 5) noneO (someO (varF 3)) σ0 s3 = some (.loc n4, s4) := e4
      have e5' : slF cutO (varF 5) (someO (varF 3)) (someO (binF addO (varF 4) (cstF (.int 1)))) σ0 s4 = some (.loc n5, s5) := e5
      have e6' : slF cutO (varF 5) (someO (binF addO (varF 4) (cstF (.int 1)))) noneO σ0 s5 = some (.loc n6, s6) := e6
      show asgS _ _ σ0 s3 = _
      rw [asgS_eq, tupF_eq, consF_eq, e4', bnd_some, consF_eq, e5', bnd_some, consF_eq, e6', bnd_some, nilF_eq]
      rfl
    · have hl1 : ∀ l : List I52, l.length ≤ 200 → (l.map I52.d).length ≤ 200 := fun l h => by rw [List.length_map]; exact h
      have q := Lv.add (Lv.add (Lv.add (Lv.add (Lv.var (i := 7) (σ := [some (cdG c), some (gD (some (a, b))), some (.str x), some (.int (a : Nat)), some (.int (b : Nat)), some (.loc n), none, some (.loc n4), some (.loc n5), some (.loc n6)]) rfl ((x5.trans x6).at g4)) (Lv.lst (a := consF (tupF (consF (cstF (.str "lock")) (consF (varF 2) nilF))) nilF) (xs := [(lk x).d]) (Ea.cons (Ev.tup (Ea.cons Ev.cst (Ea.cons (Ev.var rfl) Ea.nil)) rfl) Ea.nil) (by simp)) (by simp only [List.length_map, List.length_take, List.length_drop, List.length_append, List.length_cons, List.length_nil]; omega))
        (Lv.var (i := 8) rfl (x6.at g5)) (by simp only [List.length_map, List.length_take, List.length_drop, List.length_append, List.length_cons, List.length_nil]; omega))
        (Lv.lst (a := consF (tupF (consF (cstF (.str "unlock")) (consF (varF 2) nilF))) nilF) (xs := [(ul x).d]) (Ea.cons (Ev.tup (Ea.cons Ev.cst (Ea.cons (Ev.var rfl) Ea.nil)) rfl) Ea.nil) (by simp)) (by simp only [List.length_map, List.length_take, List.length_drop, List.length_append, List.length_cons, List.length_nil]; omega))
        (Lv.var (i := 9) rfl g6) (by simp only [List.length_map, List.length_take, List.length_drop, List.length_append, List.length_cons, List.length_nil]; omega)
      refine wp_retE (Ev.tupL (Lv.get q)) fun s7 x7 => ⟨?_, ((((((x1.trans x2).trans x3).trans x4).trans x5).trans x6).trans x7)⟩
      show D.tup _ = cdG (cf (c.map (mvI b)) a b x)
      unfold cdG cf
      simp only [List.map_append, List.map_cons, List.map_nil]
theorem Ev.chn3 {s : Sto} {σ : Sl} {f g h i : SE} {v0 v1 v2 v3 : Int} (hf : Ev s f σ (.int v0)) (hg : Ev s g σ (.int v1)) (hh : Ev s h σ (.int v2)) (hi : Ev s i σ (.int v3)) : Ev s (chn3F leO leO ltO f g h i) σ (.bl (decide (v0 ≤ v1) && decide (v1 ≤ v2) && decide (v2 < v3))) := fun st k => by
  obtain ⟨s1, e1, x1⟩ := hf st k
  obtain ⟨s2, e2, x2⟩ := hg s1 (k.trans x1)
  obtain ⟨s3, e3, x3⟩ := hh s2 ((k.trans x1).trans x2)
  obtain ⟨s4, e4, x4⟩ := hi s3 (((k.trans x1).trans x2).trans x3)
  by_cases h1 : v0 ≤ v1
  · by_cases h2 : v1 ≤ v2
    · exact ⟨s4, by simp only [chn3F_eq, e1, e2, e3, e4, bnd_some, leO_int, ltO_int, h1, h2, decide_true, Bool.true_and], ((x1.trans x2).trans x3).trans x4⟩
    · exact ⟨s3, by simp only [chn3F_eq, e1, e2, e3, e4, bnd_some, leO_int, ltO_int, h1, h2, decide_true, decide_false, Bool.true_and, Bool.false_and], (x1.trans x2).trans x3⟩
  · exact ⟨s2, by simp only [chn3F_eq, e1, e2, e3, e4, bnd_some, leO_int, ltO_int, h1, decide_false, Bool.false_and], x1.trans x2⟩
theorem fits_ok {c : List I52} (hc : ∀ i ∈ c, Gd52 i) (hl : c.length ≤ 100) (g : Option (Nat × Nat)) (s : Sto) : Rt s (f__fits f__can_be_guarded) [cdG c, gD g] (.bl (fitB c g)) := by
  refine Rt.run rfl ?_
  show Es s (b__fits f__can_be_guarded) [some (cdG c), some (gD g)] _
  unfold b__fits
  cases g with
  | none => exact Es.seqRT (Et.cmp (Ev.var rfl) Ev.cst o_isNn) rfl Ev.cst
  | some p =>
    obtain ⟨a, b⟩ := p
    have hlen : ON s lenO [cdG c] (.int c.length) := by
      have := o_len (s := s) (xs := c.map I52.d)
      rwa [List.length_map] at this
    refine Es.seqRF (Et.cmp (Ev.var rfl) Ev.cst o_isNt) rfl ?_
    have t : Et s (orT (notT (truF (unF (isiO "tuple") (varF 1)))) (orT (cmpT (eqO true) (appF lenO (consF (varF 1) nilF)) (cstF (.int 2))) (notT (truF (chn3F leO leO ltO (cstF (.int 0)) (binF ixO (varF 1) (cstF (.int 0))) (binF ixO (varF 1) (cstF (.int 1))) (appF lenO (consF (varF 0) nilF))))))) [some (cdG c), some (gD (some (a, b)))]
        (!true || ((!decide (((2 : Nat) : Int) = 2)) || !(decide ((0 : Int) ≤ (a : Nat)) && decide (((a : Nat) : Int) ≤ (b : Nat)) && decide (((b : Nat) : Int) < (c.length : Nat))))) :=
      Et.or (Et.not (Et.tru (Ev.un (Ev.var rfl) (O1.pure fun _ => rfl)) fun _ => rfl)) fun _ => Et.or (Et.cmp (Ev.app (Ea.cons (Ev.var rfl) Ea.nil) o_len) Ev.cst o_neii) fun _ =>
        Et.not (Et.tru (Ev.chn3 Ev.cst (Ev.bin (Ev.var rfl) Ev.cst o_ix0) (Ev.bin (Ev.var rfl) Ev.cst o_ix1) (Ev.app (Ea.cons (Ev.var rfl) Ea.nil) hlen)) fun _ => rfl)
    by_cases h : a ≤ b ∧ b < c.length
    · refine Es.seqRF t (by simp [h.1, h.2]) (Es.ret ?_)
      have : fitB c (some (a, b)) = grd c a b := by simp [fitB, h.1, h.2]
      rw [this]
      exact Ev.call (Ea.cons (Ev.var rfl) (Ea.cons (Ev.var rfl) Ea.nil)) fun st k => can_ok hc h.1 h.2 hl st
    · have : fitB c (some (a, b)) = false := by
        simp only [fitB, Bool.and_eq_false_iff, decide_eq_false_iff_not]
        rcases Decidable.not_and_iff_or_not.mp h with h | h
        · exact .inl (.inl h)
        · exact .inl (.inr h)
      rw [this]
      refine Es.seqRT t ?_ Ev.cst
      rcases Decidable.not_and_iff_or_not.mp h with h | h <;> simp <;> omega
theorem guardable_all {c : List I52} (hc : ∀ i ∈ c, Gd52 i) (hl : c.length ≤ 100) (a b : Nat) (s : Sto) : Rt s f__law_guardable [cdG c, .int a, .int b] (.bl (fitB c (some (a, b)))) := by
  by_cases h : a ≤ b ∧ b < c.length
  · have : fitB c (some (a, b)) = grd c a b := by simp [fitB, h.1, h.2]
    rw [this]
    exact fun st k => guardable_ok hc h.1 h.2 hl st
  · have : fitB c (some (a, b)) = false := by
      simp only [fitB, Bool.and_eq_false_iff, decide_eq_false_iff_not]
      rcases Decidable.not_and_iff_or_not.mp h with h | h
      · exact .inl (.inl h)
      · exact .inl (.inr h)
    rw [this]
    refine Rt.run rfl ?_
    show Es s b__law_guardable [some (cdG c), some (.int a), some (.int b), none, none] _
    unfold b__law_guardable
    have hlen : ON s lenO [cdG c] (.int c.length) := by
      have := o_len (s := s) (xs := c.map I52.d)
      rwa [List.length_map] at this
    refine Es.seqRT (Et.not (Et.tru (Ev.chn3 Ev.cst (Ev.var rfl) (Ev.var rfl) (Ev.app (Ea.cons (Ev.var rfl) Ea.nil) hlen)) fun _ => rfl)) ?_ Ev.cst
    rcases Decidable.not_and_iff_or_not.mp h with h | h <;> simp <;> omega
/-! N3.lean -/
/-! ### k53: guarded, and what is told of it -/
abbrev Th53 := Str × Str × List D
def Th53.d (t : Th53) : D := .tup (.str t.1 :: .str t.2.1 :: t.2.2)
def badL : List Str := ["x", "m", "lock", "a", "toolongname"]
def refD (w : Str) : D := .tup [.str "refused", .str w]
def manyB (c : List I52) (g : Option (Nat × Nat)) : Bool := g.isSome && decide (10 < c.length)
def newD (S : List Th53) (c0 c1 : List I52) (g0 g1 : Option (Nat × Nat)) (x : Str) : D := .tup [.tup (S.map Th53.d ++ [(lk x).d]), .tup [cdG (wl c0 g0 x), cdG (wl c1 g1 x)]]
def dueG (S : List Th53) (c0 c1 : List I52) (gs : List (Option (Nat × Nat))) (x : Str) : D := match gs with
  | [g0, g1] => if (fitB c0 g0 && fitB c1 g1) = true then (if (manyB c0 g0 || manyB c1 g1) = true then refD "many" else newD S c0 c1 g0 g1 x) else refD "guards"
  | _ => refD "guards"
def dueD (S : List Th53) (c0 c1 : List I52) (gs : List (Option (Nat × Nat))) (x : Str) : D :=
  if decide (x ∈ badL) = true then refD "name" else if 6 ≤ S.length then refD "shared" else dueG S c0 c1 gs x
def pD (S : List Th53) (c0 c1 : List I52) : D := .tup [.tup (S.map Th53.d), .tup [cdG c0, cdG c1]]
theorem Ev.anyL {s : Sto} {σ : Sl} {e : SE} {all : Bool} {l : List Bool} (h : ∀ st, Ext s st → ∃ st2 n, e σ st = some (.loc n, st2) ∧ Ext st st2 ∧ getL st2 n = some (l.map .bl)) : Ev s (appF (anyO all) (consF e nilF)) σ (.bl (if all then l.all id else l.any id)) := fun st k => by
  obtain ⟨s1, n, e1, x1, g1⟩ := h st k
  exact ⟨s1, by rw [appF_eq, consF_eq, e1, bnd_some, nilF_eq, bnd_some, bnd_some, any_ok g1], x1⟩
theorem wl_many {c : List I52} {g : Option (Nat × Nat)} {x : Str} (hc : Cg c) (hg : fitB c g = true) : decide ((12 : Int) < ((wl c g x).length : Nat)) = manyB c g := by
  have h12 := hc.len
  cases g with
  | none =>
    show decide ((12 : Int) < (c.length : Nat)) = false
    exact decide_eq_false (by omega)
  | some p =>
    obtain ⟨a, b⟩ := p
    simp only [fitB, Bool.and_eq_true, decide_eq_true_eq] at hg
    have : (wl c (some (a, b)) x).length = c.length + 2 := by
      show (cf _ a b x).length = _
      rw [cf_len hg.1.1 (by rw [List.length_map]; exact hg.1.2), List.length_map]
    rw [this]
    show _ = (true && decide (10 < c.length))
    rw [Bool.true_and]
    by_cases h : 10 < c.length
    · rw [decide_eq_true h, decide_eq_true (by omega)]
    · rw [decide_eq_false h, decide_eq_false (by omega)]
abbrev Pr53 := List I52 × Option (Nat × Nat)
def Pr53.d (p : Pr53) : D := .tup [cdG p.1, gD p.2]
theorem ei_zip {s : Sto} {σ : Sl} {f g : SE} {c0 c1 : List I52} {g0 g1 : Option (Nat × Nat)} (hf : Ev s f σ (.tup [cdG c0, cdG c1])) (hg : Ev s g σ (.tup [gD g0, gD g1])) : Ei s (zipI (consF f (consF g nilF))) σ (([(c0, g0), (c1, g1)] : List Pr53).map Pr53.d) := fun st k => by
  obtain ⟨s1, e1, x1⟩ := (Ea.cons hf (Ea.cons hg Ea.nil)) st k
  exact ⟨.cns _, s1, by rw [zipI_eq, e1, bnd_some]; rfl, x1, fun _ _ => rfl⟩
theorem guarded_ok {isn : Fx} {S : List Th53} {c0 c1 : List I52} {gs : List (Option (Nat × Nat))} {x : Str} (h0 : Cg c0) (h1 : Cg c1) (hS : 0 < S.length ∧ S.length ≤ 100) (hn : ∀ s, Rt s isn [.str x] (.bl (okName x))) (hb : (!okName x || decide (x ∈ S.map fun t => t.2.1)) = decide (x ∈ badL)) (st : Sto) :
    ∃ d s2, fx_guarded isn (f__fits f__can_be_guarded) (f__with_lock f__led_past) true [pD S c0 c1, .tup (gs.map gD), .str x] st = some (d, s2) ∧ (match d with
      | .ok v => v = dueD S c0 c1 gs x ∧ Ext st s2
      | .exc c ds => c = "NoSuchPlace" ∧ Ext st s2 ∧ ∃ w, ds = [.str w] ∧ dueD S c0 c1 gs x = refD w) := by
  refine wpx_run rfl ?_
  have hsl : List.map some [pD S c0 c1, .tup (gs.map gD), .str x] ++ List.replicate (9 - 3) none = [some (pD S c0 c1), some (.tup (gs.map gD)), some (.str x), none, none, none, none, none, none] := rfl
  rw [hsl]
  unfold bx_guarded
  refine wpx_esE (Es.asg2 (Ev.var rfl)) fun s1 x1 => ?_
  let σ1 : Sl := [some (pD S c0 c1), some (.tup (gs.map gD)), some (.str x), some (.tup (S.map Th53.d)), some (.tup [cdG c0, cdG c1]), none, none, none, none]
  -- the name
  have hix : ∀ (t : Th53) s, O2 s ixO t.d (.int 1) (.str t.2.1) := fun t s => o_ix1
  have tn : Et s1 (orT (notT (truF (callF isn (consF (varF 2) nilF)))) (cmpT (inO false) (varF 2) (compF [5] (anyI (varF 3)) (nmG 5) yesT (binF ixO (varF 5) (cstF (.int 1)))))) σ1 (decide (x ∈ badL)) := by
    rw [← hb]
    refine Et.or (Et.not (Et.tru (Ev.call (Ea.cons (Ev.var rfl) Ea.nil) (hn s1)) fun _ => rfl)) fun _ => ?_
    have := et_inL (s := s1) (σ := σ1) (w := x) (l := S.map fun t => t.2.1) false (f := varF 2) (e := compF [5] (anyI (varF 3)) (nmG 5) yesT (binF ixO (varF 5) (cstF (.int 1)))) (Ev.var rfl) (by
      have e : (S.map fun t => t.2.1).map D.str = S.filterMap fun t => some (D.str t.2.1) := by simp
      rw [e]
      exact Ev.compM (fd := Th53.d) (fun t => some (D.str t.2.1)) (Ei.tup (Ev.var rfl)) (Nat.le_trans hS.2 (by decide)) fun t _ => ⟨_, rfl, fun st _ => ⟨st, rfl, Ext.refl⟩, fun y ey => by cases ey; exact Ev.bin (Ev.var rfl) Ev.cst (hix t s1)⟩)
    rwa [Bool.bne_false] at this
  refine wpx_seq (wpx_ifE tn (fun h s2 x2 => wpx_raiseE (Ea.cons Ev.cst Ea.nil) (by decide +kernel) (by decide +kernel) fun s3 x3 => ⟨rfl, (x1.trans x2).trans x3, _, rfl, if_pos h⟩) (fun hnm s2 x2 => wpx_lift (wp_skip ?_)))
  -- room for it
  have hlS : ∀ s, ON s lenO [.tup (S.map Th53.d)] (.int S.length) := fun s => by
    have := o_len (s := s) (xs := S.map Th53.d)
    rwa [List.length_map] at this
  refine wpx_seq (wpx_ifE (b := decide ((6 : Int) ≤ (S.length : Nat))) (Et.cmp (Ev.app (Ea.cons (Ev.var (d := .tup (S.map Th53.d)) rfl) Ea.nil) (hlS _)) Ev.cst o_ge) (fun h s3 x3 => wpx_raiseE (Ea.cons Ev.cst Ea.nil) (by decide +kernel) (by decide +kernel) fun s4 x4 => ⟨rfl, ((x1.trans x2).trans x3).trans x4, _, rfl, ?_⟩) (fun hsh s3 x3 => wpx_lift (wp_skip ?_)))
  · have h6 : 6 ≤ S.length := by have := of_decide_eq_true h; omega
    unfold dueD
    rw [if_neg (by rw [hnm]; decide), if_pos h6]
  have h6 : ¬ 6 ≤ S.length := fun h => by
    have := of_decide_eq_false hsh
    omega
  have due2 : dueD S c0 c1 gs x = dueG S c0 c1 gs x := by
    unfold dueD
    rw [if_neg (by rw [hnm]; decide), if_neg h6]
  -- as many guards as threads
  have hlg : ∀ s, ON s lenO [.tup (gs.map gD)] (.int gs.length) := fun s => by
    have := o_len (s := s) (xs := gs.map gD)
    rwa [List.length_map] at this
  refine wpx_seq (wpx_ifE (b := !decide ((gs.length : Int) = ((2 : Nat) : Int))) (Et.cmp (Ev.app (Ea.cons (Ev.var (d := .tup (gs.map gD)) rfl) Ea.nil) (hlg _)) (Ev.app (Ea.cons (Ev.var (d := .tup [cdG c0, cdG c1]) rfl) Ea.nil) o_len) o_neii) (fun h s4 x4 => wpx_raiseE (Ea.cons Ev.cst Ea.nil) (by decide +kernel) (by decide +kernel) fun s5 x5 => ⟨rfl, (((x1.trans x2).trans x3).trans x4).trans x5, _, rfl, ?_⟩) (fun hg2 s4 x4 => wpx_lift (wp_skip ?_)))
  · have hg2 : gs.length ≠ 2 := fun e => by rw [e] at h; exact absurd h (by decide)
    rw [due2]
    match gs, hg2 with
    | [], _ => rfl
    | [_], _ => rfl
    | [_, _], h => exact absurd rfl h
    | _ :: _ :: _ :: _, _ => rfl
  have hg2 : gs.length = 2 := by
    rw [Bool.not_eq_false'] at hg2
    have := of_decide_eq_true hg2
    omega
  obtain ⟨g0, g1, rfl⟩ : ∃ g0 g1, gs = [g0, g1] := by
    match gs, hg2 with
    | [a, b], _ => exact ⟨a, b, rfl⟩
  have due3 : dueD S c0 c1 [g0, g1] x = if (fitB c0 g0 && fitB c1 g1) = true then (if (manyB c0 g0 || manyB c1 g1) = true then refD "many" else newD S c0 c1 g0 g1 x) else refD "guards" := due2
  have hl : ∀ p ∈ ([(c0, g0), (c1, g1)] : List Pr53), Cg p.1 := fun p hp => by
    simp only [List.mem_cons, List.not_mem_nil, or_false] at hp
    rcases hp with rfl | rfl
    · exact h0
    · exact h1
  have hz : ∀ s, Ei s (zipI (consF (varF 4) (consF (varF 1) nilF))) σ1 (([(c0, g0), (c1, g1)] : List Pr53).map Pr53.d) := fun s => ei_zip (Ev.var rfl) (Ev.var rfl)
  have tf : Et s4 (notT (truF (appF (anyO true) (consF (compF [6, 7] (zipI (consF (varF 4) (consF (varF 1) nilF))) (tupG [6, 7]) yesT (callF (f__fits f__can_be_guarded) (consF (varF 6) (consF (varF 7) nilF)))) nilF)))) σ1 (!(fitB c0 g0 && fitB c1 g1)) := by
    refine Et.not (Et.tru (x := .bl (fitB c0 g0 && fitB c1 g1)) (Ev.of (Ev.anyL (l := [fitB c0 g0, fitB c1 g1]) ?_) (by simp)) fun _ => rfl)
    exact Ev.compM (L := ([(c0, g0), (c1, g1)] : List Pr53)) (fd := Pr53.d) (fun p => some (.bl (fitB p.1 p.2))) (hz s4) (by show 2 ≤ 1000000; decide) fun p hp => ⟨_, rfl, fun st _ => ⟨st, rfl, Ext.refl⟩, fun y ey => by cases ey; exact Ev.call (Ea.cons (Ev.var rfl) (Ea.cons (Ev.var rfl) Ea.nil)) (fits_ok (hl p hp).good (Nat.le_trans (hl p hp).len (by decide)) p.2 s4)⟩
  refine wpx_seq (wpx_ifE tf (fun h s5 x5 => wpx_raiseE (Ea.cons Ev.cst Ea.nil) (by decide +kernel) (by decide +kernel) fun s6 x6 => ⟨rfl, ((((x1.trans x2).trans x3).trans x4).trans x5).trans x6, _, rfl, ?_⟩) (fun hft s5 x5 => wpx_lift (wp_skip ?_)))
  · rw [due3, if_neg (by rw [Bool.not_eq_true'] at h; rw [h]; decide)]
  rw [Bool.not_eq_false'] at hft
  have hf2 := hft
  rw [Bool.and_eq_true] at hf2
  have hfp : ∀ p ∈ ([(c0, g0), (c1, g1)] : List Pr53), fitB p.1 p.2 = true := fun p hp => by
    simp only [List.mem_cons, List.not_mem_nil, or_false] at hp
    rcases hp with rfl | rfl
    · exact hf2.1
    · exact hf2.2
  -- the threads with the lock
  obtain ⟨s6, n6, e6, x6, g6⟩ := Ev.compM (vs := [6, 7]) (gg := tupG [6, 7]) (c := yesT) (e := callF (f__with_lock f__led_past) (consF (varF 6) (consF (varF 7) (consF (varF 2) nilF)))) (L := ([(c0, g0), (c1, g1)] : List Pr53)) (fd := Pr53.d) (fun p => some (cdG (wl p.1 p.2 x))) (hz s5) (by show 2 ≤ 1000000; decide) (fun p hp => ⟨_, rfl, fun st _ => ⟨st, rfl, Ext.refl⟩, fun y ey => by cases ey; exact Ev.call (Ea.cons (Ev.var rfl) (Ea.cons (Ev.var rfl) (Ea.cons (Ev.var rfl) Ea.nil))) (with_lock_ok (hl p hp).good (Nat.le_trans (hl p hp).len (by decide)) (hfp p hp) x s5)⟩) s5 Ext.refl
  have g6' : getL s6 n6 = some (([wl c0 g0 x, wl c1 g1 x] : List (List I52)).map cdG) := g6
  refine wpx_nx (σ1 := [some (pD S c0 c1), some (.tup ([g0, g1].map gD)), some (.str x), some (.tup (S.map Th53.d)), some (.tup [cdG c0, cdG c1]), none, none, none, some (.loc n6)]) (st1 := s6) (by
    show asgS _ _ σ1 s5 = _
    rw [asgS_eq, e6, bnd_some]; rfl) ?_
  have hlc : ∀ (c : List I52) s, ON s lenO [cdG c] (.int c.length) := fun c s => by
    have := o_len (s := s) (xs := c.map I52.d)
    rwa [List.length_map] at this
  have tm : Et s6 (truF (appF (anyO false) (consF (compF [6] (anyI (varF 8)) (nmG 6) yesT (binF gtO (appF lenO (consF (varF 6) nilF)) (cstF c_MOST_INSTRUCTIONS))) nilF))) [some (pD S c0 c1), some (.tup ([g0, g1].map gD)), some (.str x), some (.tup (S.map Th53.d)), some (.tup [cdG c0, cdG c1]), none, none, none, some (.loc n6)] (manyB c0 g0 || manyB c1 g1) := by
    refine Et.tru (x := .bl (manyB c0 g0 || manyB c1 g1)) (Ev.of (Ev.anyL (l := [manyB c0 g0, manyB c1 g1]) ?_) (by simp)) fun _ => rfl
    have e : ([manyB c0 g0, manyB c1 g1] : List Bool).map D.bl = ([wl c0 g0 x, wl c1 g1 x] : List (List I52)).filterMap fun c => some (D.bl (decide ((12 : Int) < (c.length : Nat)))) := by
      rw [← wl_many (x := x) h0 hf2.1, ← wl_many (x := x) h1 hf2.2]; rfl
    rw [e]
    exact Ev.compM (L := [wl c0 g0 x, wl c1 g1 x]) (fd := cdG) (fun c => some (D.bl (decide ((12 : Int) < (c.length : Nat))))) (Ei.loc (Ev.var rfl) g6') (by show 2 ≤ 1000000; decide) fun c _ => ⟨_, rfl, fun st _ => ⟨st, rfl, Ext.refl⟩, fun y ey => by cases ey; exact Ev.bin (Ev.app (Ea.cons (Ev.var rfl) Ea.nil) (hlc c s6)) Ev.cst o_gt⟩
  have xx := ((((x1.trans x2).trans x3).trans x4).trans x5).trans x6
  refine wpx_seq (wpx_ifE tm (fun h s7 x7 => wpx_raiseE (Ea.cons Ev.cst Ea.nil) (by decide +kernel) (by decide +kernel) fun s8 x8 => ⟨rfl, (xx.trans x7).trans x8, _, rfl, ?_⟩) (fun hmn s7 x7 => wpx_lift (wp_skip ?_)))
  · rw [due3, if_pos hft, if_pos h]
  have hd : dueD S c0 c1 [g0, g1] x = newD S c0 c1 g0 g1 x := by rw [due3, if_pos hft, if_neg (by rw [hmn]; decide)]
  refine wpx_retE (d := newD S c0 c1 g0 g1 x) ?_ fun s8 x8 => ⟨hd.symm, (xx.trans x7).trans x8⟩
  refine Ev.tup (Ea.cons (Ev.bin (Ev.var (d := .tup (S.map Th53.d)) rfl) (Ev.tup (Ea.cons (Ev.tup (Ea.cons Ev.cst (Ea.cons (Ev.var rfl) Ea.nil)) rfl) Ea.nil) rfl) (o_cat ?_ ?_)) (Ea.cons (Ev.app (Ea.cons (Ev.var rfl) Ea.nil) (o_tupleL (x7.getL g6'))) Ea.nil)) rfl
  · have := hS.2
    simp only [List.length_map, List.length_cons, List.length_nil]
    omega
  · match S, hS.1 with
    | t :: S, _ => rfl
theorem told_ok {isn : Fx} {S : List Th53} {c0 c1 : List I52} {gs : List (Option (Nat × Nat))} {x : Str} (h0 : Cg c0) (h1 : Cg c1) (hS : 0 < S.length ∧ S.length ≤ 100) (hn : ∀ s, Rt s isn [.str x] (.bl (okName x))) (hb : (!okName x || decide (x ∈ S.map fun t => t.2.1)) = decide (x ∈ badL)) (s : Sto) :
    Rt s (f__law_told (fx_guarded isn (f__fits f__can_be_guarded) (f__with_lock f__led_past) true)) [pD S c0 c1, .tup (gs.map gD), .str x] (dueD S c0 c1 gs x) := fun st k => by
  obtain ⟨d, s2, e, q⟩ := guarded_ok h0 h1 hS hn hb (gs := gs) st
  suffices w : ∃ v s3, f__law_told (fx_guarded isn (f__fits f__can_be_guarded) (f__with_lock f__led_past) true) [pD S c0 c1, .tup (gs.map gD), .str x] st = some (v, s3) ∧ v = dueD S c0 c1 gs x ∧ Ext st s3 by
    obtain ⟨v, s3, e, rfl, x⟩ := w
    exact ⟨s3, e, x⟩
  refine wp_run rfl ?_
  unfold b__law_told
  refine wp_try (wpx_ret (d := d) (st1 := s2) ?_ ?_)
  · have hsl : List.map some [pD S c0 c1, .tup (gs.map gD), .str x] ++ List.replicate (4 - 3) none = [some (pD S c0 c1), some (.tup (gs.map gD)), some (.str x), none] := rfl
    rw [hsl]
    simp only [callX, consF_eq, varF_eq, cstF_eq, nilF_eq, List.getElem?_cons_zero, List.getElem?_cons_succ, bnd_some, e]
  · cases d with
    | ok v => exact ⟨q.1, q.2⟩
    | exc c ds =>
      obtain ⟨rfl, x2, w, rfl, hd⟩ := q
      refine ⟨rfl, by simp, wp_ret (d := refD w) (st1 := s2) ?_ ⟨hd.symm, x2⟩⟩
      simp only [tupF_eq, consF_eq, cstF_eq, nilF_eq, fldF, List.getElem?_cons_zero, Option.map_some, bnd_some]
      rfl
/-! N4.lean -/
/-! ### k53: what is due -/
/-- a list that is pushed to when a test says so -/
theorem wp_pushB {base st : Sto} {σ : Sl} {i n : Nat} {f : SE} {c : ST} {b : Bool} {d : D} {l : List D} {Q : R → Sto → Prop} (hx : Ext base st) (hn : base.length ≤ n) (ho : σ[i]? = some (some (.loc n))) (hc : Et st c σ b) (h : Ev st f σ d) (g : st[n]? = some (.lst l)) (hl : l.length < 1000000) (k : ∀ st2, Ext base st2 → st2[n]? = some (.lst (l ++ if b = true then [d] else [])) → Q (.nx σ) st2) : Wp (ifS c (exS (bmF "list" appendO (varF i) (consF f nilF))) nxS σ st) Q := by
  refine wp_ifE hc (fun hb s2 x2 => ?_) (fun hb s2 x2 => ?_)
  · refine wp_pushE ho (h.mono x2) (x2.at g) hl fun s3 x3 g3 => k _ (((hx.trans x2).trans x3).set hn) ?_
    rw [List.getElem?_set_self (List.getElem?_eq_some_iff.mp g3).1, if_pos hb]
  · refine wp_skip (k _ (hx.trans x2) ?_)
    rw [if_neg (by rw [hb]; decide), List.append_nil]
    exact x2.at g
def cfW (M : List I52) (a b : Nat) (x : Str) (j : Nat) : List I52 := if j ≤ a then M.take j else if j ≤ b then M.take a ++ [lk x] ++ (M.drop a).take (j - a) else M.take a ++ [lk x] ++ (M.drop a).take (b + 1 - a) ++ [ul x] ++ (M.drop (b + 1)).take (j - (b + 1))
theorem cfW_end {M : List I52} {a b : Nat} {x : Str} (h1 : a ≤ b) (h2 : b < M.length) : cfW M a b x M.length = cf M a b x := by
  unfold cfW cf
  rw [if_neg (by omega), if_neg (by omega), List.take_of_length_le (l := M.drop (b + 1)) (by rw [List.length_drop]; omega)]
theorem cfW_succ {M : List I52} {a b j : Nat} {x : Str} (h1 : a ≤ b) {i : I52} (hi : M[j]? = some i) : cfW M a b x (j + 1) = cfW M a b x j ++ (if decide (j = a) = true then [lk x] else []) ++ [i] ++ (if decide (j = b) = true then [ul x] else []) := by
  have hd : ∀ a, a ≤ j → (M.drop a)[j - a]? = some i := fun a ha => by rw [List.getElem?_drop, show a + (j - a) = j by omega, hi]
  have tk : ∀ a, a ≤ j → (M.drop a).take (j + 1 - a) = (M.drop a).take (j - a) ++ [i] := fun a ha => by
    rw [show j + 1 - a = (j - a) + 1 by omega, List.take_succ, hd a ha]; rfl
  have t0 : M.take (j + 1) = M.take j ++ [i] := by rw [List.take_succ, hi]; rfl
  unfold cfW
  by_cases ja : j < a
  · rw [if_pos (by omega), if_pos (by omega), if_neg (by simp; omega), if_neg (by simp; omega), t0]
    simp
  · by_cases je : j = a
    · subst je
      by_cases jb : j = b
      · subst jb
        rw [if_neg (by omega), if_neg (by omega), if_pos (Nat.le_refl _), if_pos (by simp), if_pos (by simp), tk j (Nat.le_refl _)]
        simp
      · rw [if_neg (by omega), if_pos (by omega), if_pos (Nat.le_refl _), if_pos (by simp), if_neg (by simpa using jb), tk j (Nat.le_refl _)]
        simp
    · by_cases jb : j < b
      · rw [if_neg (by omega), if_pos (by omega), if_neg (by omega), if_pos (by omega), if_neg (by simpa using je), if_neg (by simp; omega), tk a (by omega)]
        simp
      · by_cases jb2 : j = b
        · subst jb2
          rw [if_neg (by omega), if_neg (by omega), if_neg (by omega), if_pos (by omega), if_neg (by simpa using je), if_pos (by simp), tk a (by omega)]
          simp
        · rw [if_neg (by omega), if_neg (by omega), if_neg (by omega), if_neg (by omega), if_neg (by simpa using je), if_neg (by simpa using jb2), tk (b + 1) (by omega)]
          simp
theorem cfW_len {M : List I52} {a b j : Nat} {x : Str} : (cfW M a b x j).length ≤ M.length + M.length + M.length + 2 := by
  unfold cfW
  split
  · rw [List.length_take]; omega
  · split <;> simp only [List.length_append, List.length_take, List.length_drop, List.length_cons, List.length_nil] <;> omega
theorem place_ok (k : Int) (a b : Nat) (s : Sto) : Rt s f__law_place [.int k, gD (some (a, b))] (.int (k + (if decide ((a : Int) < k) = true then 1 else 0) + (if decide ((b : Int) < k) = true then 1 else 0))) :=
  Rt.run rfl (Es.ret (Ev.bin (Ev.bin (Ev.var rfl) (Ev.app (Ea.cons (Ev.bin (Ev.var rfl) (Ev.bin (Ev.var rfl) Ev.cst o_ix0) o_gt) Ea.nil) o_intb) o_add) (Ev.app (Ea.cons (Ev.bin (Ev.var rfl) (Ev.bin (Ev.var rfl) Ev.cst o_ix1) o_gt) Ea.nil) o_intb) o_add))
theorem go_out {c : List I52} {a b : Nat} (hg : grd c a b = true) {k : Int} {t : D} (hi : (⟨"go", [.int k, t]⟩ : I52) ∈ c) : ¬ ((a : Int) < k ∧ k ≤ (b : Int)) := fun h => by
  unfold grd at hg
  rw [Bool.and_eq_true, Bool.not_eq_true'] at hg
  have h2 := hg.2
  unfold leads at h2
  rw [List.any_eq_false] at h2
  have := h2 k (List.mem_filterMap.mpr ⟨_, hi, by simp [tgt]⟩)
  unfold hit at this
  rw [decide_eq_true h.1, decide_eq_true h.2] at this
  exact this rfl
theorem code_ok {c : List I52} (hc : ∀ i ∈ c, Gd52 i) (hl : c.length ≤ 100) {g : Option (Nat × Nat)} (hg : fitB c g = true) (x : Str) (s : Sto) : Rt s (f__law_code f__law_place) [cdG c, gD g, .str x] (cdG (wl c g x)) := by
  cases g with
  | none =>
    refine Rt.run rfl ?_
    show Es s (b__law_code f__law_place) ([cdG c, .non, .str x].map some ++ _) _
    unfold b__law_code
    exact Es.seqRT (Et.cmp (Ev.var rfl) Ev.cst o_isNn) rfl (Ev.var rfl)
  | some p =>
    obtain ⟨a, b⟩ := p
    simp only [fitB, Bool.and_eq_true, decide_eq_true_eq] at hg
    obtain ⟨⟨h1, h2⟩, hgr⟩ := hg
    intro st k
    suffices w : ∃ d s2, f__law_code f__law_place [cdG c, gD (some (a, b)), .str x] st = some (d, s2) ∧ d = cdG (wl c (some (a, b)) x) ∧ Ext st s2 by
      obtain ⟨d, s2, e, rfl, x⟩ := w
      exact ⟨s2, e, x⟩
    refine wp_run rfl ?_
    have hsl : List.map some [cdG c, gD (some (a, b)), .str x] ++ List.replicate (6 - 3) none = [some (cdG c), some (gD (some (a, b))), some (.str x), none, none, none] := rfl
    rw [hsl]
    unfold b__law_code
    have hlen : ∀ s, ON s lenO [cdG c] (.int c.length) := fun s => by
      have := o_len (s := s) (xs := c.map I52.d)
      rwa [List.length_map] at this
    refine wp_seq (wp_ifE (b := false) (Et.cmp (Ev.var rfl) Ev.cst o_isNt) (fun h => by cases h) (fun _ s1 x1 => wp_skip ?_))
    refine wp_nx (σ1 := [some (cdG c), some (gD (some (a, b))), some (.str x), some (.loc s1.length), none, none]) (st1 := s1 ++ [.lst []]) (by simp) ?_
    have y0 : Ext st (s1 ++ [OB.lst []]) := x1.trans (Ext.app _)
    refine wp_seq (wp_forR (v := c.length) (fun j σ s => ∃ x4 x5, σ = [some (cdG c), some (gD (some (a, b))), some (.str x), some (.loc s1.length), x4, x5] ∧ Ext s1 s ∧ s[s1.length]? = some (.lst ((cfW (c.map (mvI b)) a b x j).map I52.d))) (Ea.cons (Ev.app (Ea.cons (Ev.var rfl) Ea.nil) (hlen _)) Ea.nil) (by omega) (fun s2 x2 => ⟨_, _, rfl, (Ext.app _).trans x2, by rw [x2.at (by simp : (s1 ++ [OB.lst []])[s1.length]? = some (.lst []))]; simp [cfW]⟩) ?_ ?_)
    · rintro j σ s hj ⟨x4, x5, rfl, xx, gg⟩
      refine ⟨[some (cdG c), some (gD (some (a, b))), some (.str x), some (.loc s1.length), some (.int (j : Nat)), x5], rfl, ?_⟩
      obtain ⟨i, ei⟩ : ∃ i, c[j]? = some i := ⟨c[j], List.getElem?_eq_getElem hj⟩
      have im := List.mem_of_getElem? ei
      have eM : (c.map (mvI b))[j]? = some (mvI b i) := by rw [List.getElem?_map, ei]; rfl
      have hW := cfW_len (M := c.map (mvI b)) (a := a) (b := b) (j := j) (x := x)
      rw [List.length_map] at hW
      have eqn : ∀ m : Nat, decide (((j : Nat) : Int) = (m : Nat)) = decide (j = m) := fun m => by
        by_cases h : j = m
        · rw [decide_eq_true h, decide_eq_true (by omega)]
        · rw [decide_eq_false h, decide_eq_false (by omega)]
      refine wp_seq (wp_pushB (b := decide (j = a)) (d := (lk x).d) xx (Nat.le_refl _) rfl ?_ (Ev.tup (Ea.cons Ev.cst (Ea.cons (Ev.var rfl) Ea.nil)) rfl) gg (by rw [List.length_map]; omega) fun s3 x3 g3 => ?_)
      · rw [← eqn]; exact Et.cmp (Ev.var rfl) (Ev.bin (Ev.var rfl) Ev.cst o_ix0) o_eqii
      refine wp_asE (d := i.d) (Ev.bin (Ev.var rfl) (Ev.var rfl) (o_ixn (by rw [List.getElem?_map, ei]; rfl))) fun s4 x4 => ?_
      have ins : ∃ s5, ifS (cmpT (eqO false) (binF ixO (varF 5) (cstF (.int 0))) (cstF (.str "go"))) (asgS (nmG 5) (tupF (consF (cstF (.str "go")) (consF (callF f__law_place (consF (binF ixO (varF 5) (cstF (.int 1))) (consF (varF 1) nilF))) (consF (binF ixO (varF 5) (cstF (.int 2))) nilF))))) nxS [some (cdG c), some (gD (some (a, b))), some (.str x), some (.loc s1.length), some (.int (j : Nat)), some i.d] s4 = some (.nx [some (cdG c), some (gD (some (a, b))), some (.str x), some (.loc s1.length), some (.int (j : Nat)), some (mvI b i).d], s5) ∧ Ext s4 s5 := by
        by_cases hw : i.w = "go"
        · obtain ⟨k, t, rfl⟩ := go_shape (hc i im) hw
          have ho := go_out hgr im
          have pl : k + (if decide ((a : Int) < k) = true then 1 else 0) + (if decide ((b : Int) < k) = true then 1 else 0) = if k ≤ (b : Int) then k else k + 2 := by
            simp only [decide_eq_true_eq]
            split <;> split <;> split <;> omega
          have e : (mvI b ⟨"go", [.int k, t]⟩).d = .tup [.str "go", .int (k + (if decide ((a : Int) < k) = true then 1 else 0) + (if decide ((b : Int) < k) = true then 1 else 0)), t] := by
            rw [mv_go, pl]
            split <;> rfl
          rw [e]
          refine (?_ : Es s4 _ _ _) s4 Ext.refl
          exact (Es.ifT (Et.cmp (Ev.bin (Ev.var rfl) Ev.cst ix0_id) Ev.cst o_eqss) (decide_eq_true rfl) (Es.asgN (Ev.tup (Ea.cons Ev.cst (Ea.cons (Ev.call (Ea.cons (Ev.bin (Ev.var (d := .tup [.str "go", .int k, t]) rfl) Ev.cst o_ix1) (Ea.cons (Ev.var rfl) Ea.nil)) (place_ok k a b _)) (Ea.cons (Ev.bin (Ev.var (d := .tup [.str "go", .int k, t]) rfl) Ev.cst o_ix2) Ea.nil))) rfl)))
        · rw [mv_no hw]
          refine (?_ : Es s4 _ _ _) s4 Ext.refl
          exact Es.ifF (Et.cmp (Ev.bin (Ev.var rfl) Ev.cst ix0_id) Ev.cst o_eqss) (decide_eq_false hw) Es.nx
      obtain ⟨s5, e5, x5'⟩ := ins
      refine wp_nx e5 ?_
      have gg5 := (x4.trans x5').at g3
      refine wp_seq (wp_pushE rfl (d := (mvI b i).d) (Ev.var rfl) gg5 (by have := hl; simp only [List.length_append, List.length_map]; split <;> simp <;> omega) fun s6 x6 g6 => ?_)
      have x36 := (((x3.trans x4).trans x5').trans x6).set (o := OB.lst (List.map I52.d (cfW (List.map (mvI b) c) a b x j) ++ (if decide (j = a) = true then [(lk x).d] else []) ++ [(mvI b i).d])) (Nat.le_refl _)
      refine wp_pushB (b := decide (j = b)) (d := (ul x).d) x36 (Nat.le_refl _) rfl ?_ (Ev.tup (Ea.cons Ev.cst (Ea.cons (Ev.var rfl) Ea.nil)) rfl) (List.getElem?_set_self (List.getElem?_eq_some_iff.mp g6).1) (by simp only [List.length_append, List.length_map]; split <;> simp <;> omega) fun s7 x7 g7 => ⟨_, _, rfl, x7, ?_⟩
      · rw [← eqn b]; exact Et.cmp (Ev.var rfl) (Ev.bin (Ev.var rfl) Ev.cst o_ix1) o_eqii
      · rw [g7, cfW_succ h1 eM]
        by_cases q1 : decide (j = a) = true <;> by_cases q2 : decide (j = b) = true <;> simp only [q1, q2, if_true, if_false, List.map_append, List.map_cons, List.map_nil, List.append_nil, Bool.false_eq_true]
    · rintro σ s ⟨x4, x5, rfl, xx, gg⟩
      have e : cfW (c.map (mvI b)) a b x c.length = wl c (some (a, b)) x := by
        have := cfW_end (M := c.map (mvI b)) (x := x) h1 (by rw [List.length_map]; exact h2)
        rwa [List.length_map] at this
      rw [e] at gg
      exact wp_retE (Ev.app (Ea.cons (Ev.var rfl) Ea.nil) (o_tupleL (getL_of gg))) fun s3 x3 => ⟨rfl, (x1.trans xx).trans x3⟩
/-! K53l.lean -/
/-! ### k53: the law -/
theorem o_fdiv {s : Sto} {x y : Int} (h : cDiv x y = true) : O2 s fdivO (.int x) (.int y) (.int (x / y)) := .pure fun _ => by
  show intO cDiv (fun i j => i / j) (.int x) (.int y) _ = _
  simp only [intO, h, if_true]
def ix1 (o : Option (Nat × Nat)) : D := gD o
theorem law_due_ok {S : List Th53} {c0 c1 : List I52} {gs : List (Option (Nat × Nat))} {x : Str} (h0 : Cg c0) (h1 : Cg c1) (hS : 0 < S.length ∧ S.length ≤ 100) (s : Sto) :
    Rt s (f__law_due f__law_guardable (f__law_code f__law_place)) [pD S c0 c1, .tup (gs.map gD), .str x] (dueD S c0 c1 gs x) := fun st _ => by
  suffices w : ∃ v s3, f__law_due f__law_guardable (f__law_code f__law_place) [pD S c0 c1, .tup (gs.map gD), .str x] st = some (v, s3) ∧ v = dueD S c0 c1 gs x ∧ Ext st s3 by
    obtain ⟨v, s3, e, rfl, x⟩ := w
    exact ⟨s3, e, x⟩
  refine wp_run rfl ?_
  have hsl : List.map some [pD S c0 c1, .tup (gs.map gD), .str x] ++ List.replicate (5 - 3) none = [some (pD S c0 c1), some (.tup (gs.map gD)), some (.str x), none, none] := rfl
  rw [hsl]
  unfold b__law_due
  have rf : ∀ (w : Str) (σ : Sl) (s : Sto), Ev s (tupF (consF (cstF (.str "refused")) (consF (cstF (.str w)) nilF))) σ (refD w) := fun w σ s => Ev.tup (Ea.cons Ev.cst (Ea.cons Ev.cst Ea.nil)) rfl
  -- the name
  have tn : Et st (cmpT (inO false) (varF 2) (lstF (consF (cstF (.str "x")) (consF (cstF (.str "m")) (consF (cstF (.str "lock")) (consF (cstF (.str "a")) (consF (cstF (.str "toolongname")) nilF))))))) [some (pD S c0 c1), some (.tup (gs.map gD)), some (.str x), none, none] (decide (x ∈ badL)) := by
    have := et_inL (s := st) (σ := [some (pD S c0 c1), some (.tup (gs.map gD)), some (.str x), none, none]) (w := x) (l := badL) false (f := varF 2) (Ev.var rfl) (Lv.get (Lv.lst (Ea.cons Ev.cst (Ea.cons Ev.cst (Ea.cons Ev.cst (Ea.cons Ev.cst (Ea.cons Ev.cst Ea.nil))))) (by decide)))
    rwa [Bool.bne_false] at this
  refine wp_seq (wp_ifE tn (fun h s2 x2 => wp_retE (rf "name" _ _) fun s3 x3 => ⟨(if_pos h).symm, x2.trans x3⟩) (fun hnm s2 x2 => wp_skip ?_))
  have hlS : ∀ s, ON s lenO [.tup (S.map Th53.d)] (.int S.length) := fun s => by
    have := o_len (s := s) (xs := S.map Th53.d)
    rwa [List.length_map] at this
  refine wp_seq (wp_ifE (b := decide ((6 : Int) ≤ (S.length : Nat))) (Et.cmp (Ev.app (Ea.cons (Ev.bin (Ev.var (d := pD S c0 c1) rfl) Ev.cst o_ix0) Ea.nil) (hlS _)) Ev.cst o_ge) (fun h s3 x3 => wp_retE (rf "shared" _ _) fun s4 x4 => ⟨?_, (x2.trans x3).trans x4⟩) (fun hsh s3 x3 => wp_skip ?_))
  · have h6 : 6 ≤ S.length := by have := of_decide_eq_true h; omega
    unfold dueD
    rw [if_neg (by rw [hnm]; decide), if_pos h6]
  have h6 : ¬ 6 ≤ S.length := fun h => by
    have := of_decide_eq_false hsh
    omega
  have due2 : dueD S c0 c1 gs x = dueG S c0 c1 gs x := by
    unfold dueD
    rw [if_neg (by rw [hnm]; decide), if_neg h6]
  have hlg : ∀ s, ON s lenO [.tup (gs.map gD)] (.int gs.length) := fun s => by
    have := o_len (s := s) (xs := gs.map gD)
    rwa [List.length_map] at this
  refine wp_seq (wp_ifE (b := !decide ((gs.length : Int) = 2)) (Et.cmp (Ev.app (Ea.cons (Ev.var (d := .tup (gs.map gD)) rfl) Ea.nil) (hlg _)) Ev.cst o_neii) (fun h s4 x4 => wp_retE (rf "guards" _ _) fun s5 x5 => ⟨?_, ((x2.trans x3).trans x4).trans x5⟩) (fun hg2 s4 x4 => wp_skip ?_))
  · have hg2 : gs.length ≠ 2 := fun e => by rw [e] at h; exact absurd h (by decide)
    rw [due2]
    match gs, hg2 with
    | [], _ => rfl
    | [_], _ => rfl
    | [_, _], h => exact absurd rfl h
    | _ :: _ :: _ :: _, _ => rfl
  have hg2 : gs.length = 2 := by
    rw [Bool.not_eq_false'] at hg2
    have := of_decide_eq_true hg2
    omega
  obtain ⟨g0, g1, rfl⟩ : ∃ g0 g1, gs = [g0, g1] := by
    match gs, hg2 with
    | [a, b], _ => exact ⟨a, b, rfl⟩
  have due3 : dueD S c0 c1 [g0, g1] x = if (fitB c0 g0 && fitB c1 g1) = true then (if (manyB c0 g0 || manyB c1 g1) = true then refD "many" else newD S c0 c1 g0 g1 x) else refD "guards" := due2
  obtain ⟨L, hL⟩ : ∃ L : List Pr53, L = [(c0, g0), (c1, g1)] := ⟨_, rfl⟩
  have hl : ∀ p ∈ L, Cg p.1 := fun p hp => by
    rw [hL] at hp
    simp only [List.mem_cons, List.not_mem_nil, or_false] at hp
    rcases hp with rfl | rfl
    · exact h0
    · exact h1
  have hlen : L.length = 2 := by rw [hL]; rfl
  have hcs : ([cdG c0, cdG c1] : List D) = L.map fun p => cdG p.1 := by rw [hL]; rfl
  have hgg : ([g0, g1].map gD : List D) = L.map fun p => gD p.2 := by rw [hL]; rfl
  -- the pieces of the tests
  have ec : ∀ (s : Sto) (x3 x4 : Option D) (j : Nat) (p : Pr53), L[j]? = some p → Ev s (binF ixO (binF ixO (varF 0) (cstF (.int 1))) (varF 3)) [some (pD S c0 c1), some (.tup ([g0, g1].map gD)), some (.str x), some (.int (j : Nat)), x4] (cdG p.1) := fun s x3 x4 j p e => Ev.bin (Ev.bin (Ev.var rfl) Ev.cst o_ix1) (Ev.var rfl) (o_ixn (by rw [hcs, List.getElem?_map, e]; rfl))
  have eg : ∀ (s : Sto) (x3 x4 : Option D) (j : Nat) (p : Pr53), L[j]? = some p → Ev s (binF ixO (varF 1) (varF 3)) [some (pD S c0 c1), some (.tup ([g0, g1].map gD)), some (.str x), some (.int (j : Nat)), x4] (gD p.2) := fun s x3 x4 j p e => Ev.bin (Ev.var rfl) (Ev.var rfl) (o_ixn (by rw [hgg, List.getElem?_map, e]; rfl))
  have hlc : ∀ (c : List I52) s, ON s lenO [cdG c] (.int c.length) := fun c s => by
    have := o_len (s := s) (xs := c.map I52.d)
    rwa [List.length_map] at this
  refine wp_seq (wp_forR (v := 2) (fun j σ s => ∃ x3, σ = [some (pD S c0 c1), some (.tup ([g0, g1].map gD)), some (.str x), x3, none] ∧ Ext st s ∧ ∀ p ∈ L.take j, fitB p.1 p.2 = true) (Ea.cons Ev.cst Ea.nil) (by decide) (fun s5 x5 => ⟨_, rfl, ((x2.trans x3).trans x4).trans x5, by simp⟩) ?_ ?_)
  · rintro j σ s hj ⟨x3, rfl, xx, hp⟩
    refine ⟨[some (pD S c0 c1), some (.tup ([g0, g1].map gD)), some (.str x), some (.int (j : Nat)), none], rfl, ?_⟩
    obtain ⟨p, ep⟩ : ∃ p, L[j]? = some p := ⟨L[j]'(by omega), List.getElem?_eq_getElem (by omega)⟩
    have pm := List.mem_of_getElem? ep
    have t : Et s (andT (cmpT (isNO true) (binF ixO (varF 1) (varF 3)) (cstF .non)) (notT (truF (callF f__law_guardable (consF (binF ixO (binF ixO (varF 0) (cstF (.int 1))) (varF 3)) (consF (binF ixO (binF ixO (varF 1) (varF 3)) (cstF (.int 0))) (consF (binF ixO (binF ixO (varF 1) (varF 3)) (cstF (.int 1))) nilF))))))) [some (pD S c0 c1), some (.tup ([g0, g1].map gD)), some (.str x), some (.int (j : Nat)), none] (!fitB p.1 p.2) := by
      have c1' := ec s none none j p ep
      have g1' := eg s none none j p ep
      obtain ⟨c, g⟩ := p
      cases g with
      | none => exact Et.of (Et.and (b2 := true) (Et.cmp g1' Ev.cst o_notNn) (fun h => by cases h)) rfl
      | some q =>
        obtain ⟨a, b⟩ := q
        exact Et.of (Et.and (Et.cmp g1' Ev.cst o_notNt) fun _ => Et.not (Et.tru (Ev.call (Ea.cons c1' (Ea.cons (Ev.bin g1' Ev.cst o_ix0) (Ea.cons (Ev.bin g1' Ev.cst o_ix1) Ea.nil))) (guardable_all (hl _ pm).good (Nat.le_trans (hl _ pm).len (by decide)) a b s)) fun _ => rfl)) (Bool.true_and _)
    refine wp_ifE t (fun h s6 x6 => wp_retE (rf "guards" _ _) fun s7 x7 => ⟨?_, (xx.trans x6).trans x7⟩) (fun h s6 x6 => wp_skip ⟨_, rfl, xx.trans x6, fun q hq => ?_⟩)
    · rw [due3, if_neg]
      intro hh
      rw [Bool.and_eq_true] at hh
      have : ∀ p ∈ L, fitB p.1 p.2 = true := fun p hp => by
        rw [hL] at hp
        simp only [List.mem_cons, List.not_mem_nil, or_false] at hp
        rcases hp with rfl | rfl
        · exact hh.1
        · exact hh.2
      rw [this p pm] at h
      cases h
    · rw [List.take_succ, ep] at hq
      rcases List.mem_append.mp hq with hq | hq
      · exact hp q hq
      · simp only [Option.toList_some, List.mem_singleton] at hq
        rw [hq]
        rwa [Bool.not_eq_false'] at h
  rintro σ s5 ⟨x3', rfl, x5, hfp⟩
  rw [List.take_of_length_le (by omega)] at hfp
  have hft : (fitB c0 g0 && fitB c1 g1) = true := by
    rw [hfp (c0, g0) (by rw [hL]; simp), hfp (c1, g1) (by rw [hL]; simp)]; rfl
  refine wp_seq (wp_forR (v := 2) (fun j σ s => ∃ x3, σ = [some (pD S c0 c1), some (.tup ([g0, g1].map gD)), some (.str x), x3, none] ∧ Ext st s ∧ ∀ p ∈ L.take j, manyB p.1 p.2 = false) (Ea.cons Ev.cst Ea.nil) (by decide) (fun s6 x6 => ⟨_, rfl, x5.trans x6, by simp⟩) ?_ ?_)
  · rintro j σ s hj ⟨x3, rfl, xx, hp⟩
    refine ⟨[some (pD S c0 c1), some (.tup ([g0, g1].map gD)), some (.str x), some (.int (j : Nat)), none], rfl, ?_⟩
    obtain ⟨p, ep⟩ : ∃ p, L[j]? = some p := ⟨L[j]'(by omega), List.getElem?_eq_getElem (by omega)⟩
    have pm := List.mem_of_getElem? ep
    have t : Et s (andT (cmpT (isNO true) (binF ixO (varF 1) (varF 3)) (cstF .non)) (cmpT gtO (appF lenO (consF (binF ixO (binF ixO (varF 0) (cstF (.int 1))) (varF 3)) nilF)) (cstF (.int 10)))) [some (pD S c0 c1), some (.tup ([g0, g1].map gD)), some (.str x), some (.int (j : Nat)), none] (manyB p.1 p.2) := by
      have c1' := ec s none none j p ep
      have g1' := eg s none none j p ep
      obtain ⟨c, g⟩ := p
      have dd : decide ((10 : Int) < (c.length : Nat)) = decide (10 < c.length) := by
        by_cases h : 10 < c.length
        · rw [decide_eq_true h, decide_eq_true (by omega)]
        · rw [decide_eq_false h, decide_eq_false (by omega)]
      cases g with
      | none => exact Et.of (Et.and (b2 := true) (Et.cmp g1' Ev.cst o_notNn) (fun h => by cases h)) rfl
      | some q =>
        obtain ⟨a, b⟩ := q
        refine Et.of (Et.and (Et.cmp g1' Ev.cst o_notNt) fun _ => Et.cmp (Ev.app (Ea.cons c1' Ea.nil) (hlc c s)) Ev.cst o_gt) ?_
        rw [dd]; rfl
    refine wp_ifE t (fun h s6 x6 => wp_retE (rf "many" _ _) fun s7 x7 => ⟨?_, (xx.trans x6).trans x7⟩) (fun h s6 x6 => wp_skip ⟨_, rfl, xx.trans x6, fun q hq => ?_⟩)
    · rw [due3, if_pos hft, if_pos]
      rw [hL] at pm
      simp only [List.mem_cons, List.not_mem_nil, or_false] at pm
      rcases pm with rfl | rfl
      · rw [h]; rfl
      · rw [h, Bool.or_true]
    · rw [List.take_succ, ep] at hq
      rcases List.mem_append.mp hq with hq | hq
      · exact hp q hq
      · simp only [Option.toList_some, List.mem_singleton] at hq
        rw [hq]; exact h
  rintro σ s6 ⟨x3'', rfl, x6, hmp⟩
  rw [List.take_of_length_le (by omega)] at hmp
  have hmn : (manyB c0 g0 || manyB c1 g1) = false := by
    rw [hmp (c0, g0) (by rw [hL]; simp), hmp (c1, g1) (by rw [hL]; simp)]; rfl
  have hd : dueD S c0 c1 [g0, g1] x = newD S c0 c1 g0 g1 x := by rw [due3, if_pos hft, if_neg (by rw [hmn]; decide)]
  -- the threads
  refine wp_asE (d := .tup [cdG (wl c0 g0 x), cdG (wl c1 g1 x)]) (Ev.tupL ?_) fun s7 x7 => ?_
  · let L2 : List (Nat × Pr53) := [(0, (c0, g0)), (1, (c1, g1))]
    have hj : Ei s6 (rngI1 (consF (cstF (.int 2)) nilF)) [some (pD S c0 c1), some (.tup ([g0, g1].map gD)), some (.str x), x3'', none] (L2.map fun q => D.int (q.1 : Nat)) := Ei.rng (v := 2) (Ea.cons Ev.cst Ea.nil) (by decide)
    have hm : ∀ q ∈ L2, L[q.1]? = some q.2 := fun q hq => by
      rw [hL]
      simp only [L2, List.mem_cons, List.not_mem_nil, or_false] at hq
      rcases hq with rfl | rfl <;> rfl
    exact Ev.compM (L := L2) (fd := fun q => D.int (q.1 : Nat)) (fun q => some (cdG (wl q.2.1 q.2.2 x))) hj (by show 2 ≤ 1000000; decide) fun q hq => ⟨[some (pD S c0 c1), some (.tup ([g0, g1].map gD)), some (.str x), some (.int (q.1 : Nat)), none], rfl, fun st _ => ⟨st, rfl, Ext.refl⟩, fun y ey => by
      cases ey
      have qm := List.mem_of_getElem? (hm q hq)
      exact Ev.call (Ea.cons (ec s6 none none q.1 q.2 (hm q hq)) (Ea.cons (eg s6 none none q.1 q.2 (hm q hq)) (Ea.cons (Ev.var rfl) Ea.nil))) (code_ok (hl _ qm).good (Nat.le_trans (hl _ qm).len (by decide)) (hfp _ qm) x s6)⟩
  refine wp_retE (d := newD S c0 c1 g0 g1 x) ?_ fun s8 x8 => ⟨hd.symm, (x6.trans x7).trans x8⟩
  refine Ev.tup (Ea.cons (Ev.bin (Ev.bin (Ev.var (d := pD S c0 c1) rfl) Ev.cst o_ix0) (Ev.tup (Ea.cons (Ev.tup (Ea.cons Ev.cst (Ea.cons (Ev.var rfl) Ea.nil)) rfl) Ea.nil) rfl) (o_cat ?_ ?_)) (Ea.cons (Ev.var rfl) Ea.nil)) rfl
  · have := hS.2
    simp only [List.length_map, List.length_cons, List.length_nil]
    omega
  · match S, hS.1 with
    | t :: S, _ => rfl

theorem guards_ok {cell : Fx} (hcl : CellOk cell) {S : List Th53} {c0 c1 : List I52} (h0 : Cg c0) (h1 : Cg c1) {st : Sto} {n : Nat} {ns : List Int} (hn : getL st n = some (ns.map .int)) :
    ∃ (g0 g1 : Option (Nat × Nat)) (st2 : Sto), f__law_guards cell [.loc n, pD S c0 c1] st = some (.tup [gD g0, gD g1], st2) ∧ Ext st st2 := by
  suffices w : ∃ v s3, f__law_guards cell [.loc n, pD S c0 c1] st = some (v, s3) ∧ ∃ g0 g1, v = .tup [gD g0, gD g1] ∧ Ext st s3 by
    obtain ⟨v, s3, e, g0, g1, rfl, x⟩ := w
    exact ⟨g0, g1, s3, e, x⟩
  refine wp_run rfl ?_
  have hsl : List.map some [D.loc n, pD S c0 c1] ++ List.replicate (7 - 2) none = [some (.loc n), some (pD S c0 c1), none, none, none, none, none] := rfl
  rw [hsl]
  unfold b__law_guards
  refine wp_nx (σ1 := [some (.loc n), some (pD S c0 c1), some (.loc st.length), none, none, none, none]) (st1 := st ++ [.lst []]) (by simp) ?_
  have y0 : Ext st (st ++ [OB.lst []]) := Ext.app _
  have hcs : ([cdG c0, cdG c1] : List D) = [c0, c1].map cdG := rfl
  refine wp_seq (wp_forR (v := 2) (fun j σ s => ∃ (x3 x4 x5 x6 : Option D) (gs : List (Option (Nat × Nat))), σ = [some (.loc n), some (pD S c0 c1), some (.loc st.length), x3, x4, x5, x6] ∧ Ext st s ∧ s[st.length]? = some (.lst (gs.map gD)) ∧ gs.length = j) (Ea.cons Ev.cst Ea.nil) (by decide) (fun s1 x1 => ⟨_, _, _, _, [], rfl, y0.trans x1, x1.at (by simp), rfl⟩) ?_ ?_)
  · rintro j σ s hj ⟨x3, x4, x5, x6, gs, rfl, xx, gg, hlg⟩
    refine ⟨[some (.loc n), some (pD S c0 c1), some (.loc st.length), some (.int (j : Nat)), x4, x5, x6], rfl, ?_⟩
    obtain ⟨c, ec, hc⟩ : ∃ c, [c0, c1][j]? = some c ∧ Cg c := by
      rcases (show j = 0 ∨ j = 1 by omega) with rfl | rfl
      · exact ⟨c0, rfl, h0⟩
      · exact ⟨c1, rfl, h1⟩
    have hlc : ∀ s, ON s lenO [cdG c] (.int c.length) := fun s => by
      have := o_len (s := s) (xs := c.map I52.d)
      rwa [List.length_map] at this
    let v : Int := ns.getD (4 + j) 0
    refine wp_asE (d := .int v) (Ev.call (xs := [.loc n, .int ((4 + j : Nat) : Int)]) (Ea.cons (Ev.var rfl) (Ea.cons (Ev.of (Ev.bin Ev.cst (Ev.var rfl) o_add) (by congr 1)) Ea.nil)) fun st4 k4 => ⟨st4, hcl st4 n ns ((xx.trans k4).getL hn) (4 + j), Ext.refl⟩) fun s1 x1 => ?_
    refine wp_asE (d := .int c.length) (Ev.app (Ea.cons (Ev.bin (Ev.bin (Ev.var rfl) Ev.cst o_ix1) (Ev.var rfl) (o_ixn (by rw [hcs, List.getElem?_map, ec]; rfl))) Ea.nil) (hlc _)) fun s2 x2 => ?_
    have hp := hc.pos
    obtain ⟨a, ha⟩ : ∃ a : Nat, (v / 3) % (c.length : Int) = a := ⟨((v / 3) % (c.length : Int)).toNat, by have := Int.emod_nonneg (v / 3) (show (c.length : Int) ≠ 0 by omega); omega⟩
    obtain ⟨b, hb⟩ : ∃ b : Nat, (v / 30) % ((c.length : Int) + 1) = b := ⟨((v / 30) % ((c.length : Int) + 1)).toNat, by have := Int.emod_nonneg (v / 30) (show ((c.length : Int) + 1) ≠ 0 by omega); omega⟩
    refine wp_asE (d := gD (some (a, b))) (Ev.tup (xs := [.int a, .int b]) (Ea.cons (Ev.of (Ev.bin (Ev.app (Ea.cons (Ev.bin (Ev.var (d := .int v) rfl) Ev.cst (o_fdiv rfl)) Ea.nil) o_inti) (Ev.var (d := .int c.length) rfl) (o_mod (decide_eq_true (by omega)))) (by rw [ha])) (Ea.cons (Ev.of (Ev.bin (Ev.app (Ea.cons (Ev.bin (Ev.var (d := .int v) rfl) Ev.cst (o_fdiv rfl)) Ea.nil) o_inti) (Ev.bin (Ev.var (d := .int c.length) rfl) Ev.cst o_add) (o_mod (decide_eq_true (by omega)))) (by rw [hb])) Ea.nil)) rfl) fun s3 x3' => ?_
    have fin : ∀ (s4 : Sto) (e : SE) (g : Option (Nat × Nat)), Ext s3 s4 → Ev s4 e [some (.loc n), some (pD S c0 c1), some (.loc st.length), some (.int (j : Nat)), some (.int v), some (.int c.length), some (gD (some (a, b)))] (gD g) → Wp (exS (bmF "list" appendO (varF 2) (consF e nilF)) [some (.loc n), some (pD S c0 c1), some (.loc st.length), some (.int (j : Nat)), some (.int v), some (.int c.length), some (gD (some (a, b)))] s4) fun r s => ∃ σ2, r = .nx σ2 ∧ ∃ (x3 x4 x5 x6 : Option D) (gs : List (Option (Nat × Nat))), σ2 = [some (.loc n), some (pD S c0 c1), some (.loc st.length), x3, x4, x5, x6] ∧ Ext st s ∧ s[st.length]? = some (.lst (gs.map gD)) ∧ gs.length = j + 1 := fun s4 e g x4 he => by
      refine wp_pushE rfl he (((x1.trans x2).trans x3').trans x4 |>.at gg) (by rw [List.length_map]; omega) fun s5 x5 g5 => ⟨_, rfl, _, _, _, _, gs ++ [g], rfl, ((xx.trans (((x1.trans x2).trans x3').trans x4)).trans x5).set (Nat.le_refl _), ?_, by simp [hlg]⟩
      rw [List.getElem?_set_self (List.getElem?_eq_some_iff.mp g5).1, List.map_append]; rfl
    refine wp_ifE (b := decide (v % 3 = 0)) (Et.cmp (Ev.bin (Ev.app (Ea.cons (Ev.var (d := .int v) rfl) Ea.nil) o_inti) Ev.cst (o_mod rfl)) Ev.cst o_eqii) (fun h s4 x4 => ?_) (fun h s4 x4 => ?_)
    · exact wp_mono (fin s4 _ none x4 Ev.cst) fun r s h => by obtain ⟨σ2, rfl, h⟩ := h; exact h
    · exact wp_mono (fin s4 _ (some (a, b)) x4 (Ev.var rfl)) fun r s h => by obtain ⟨σ2, rfl, h⟩ := h; exact h
  · rintro σ s ⟨x3, x4, x5, x6, gs, rfl, xx, gg, hlg⟩
    obtain ⟨g0, g1, rfl⟩ : ∃ g0 g1, gs = [g0, g1] := by
      match gs, hlg with
      | [a, b], _ => exact ⟨a, b, rfl⟩
    exact wp_retE (Ev.app (Ea.cons (Ev.var rfl) Ea.nil) (o_tupleL (getL_of gg))) fun s3 x3 => ⟨g0, g1, rfl, xx.trans x3⟩
def S4 : List Th53 := [("var", "x", [.int 0]), ("lock", "m", []), ("var", "y", [.int 1]), ("lock", "n", [])]
def S6 : List Th53 := [("lock", "m", []), ("var", "x", [.int 0]), ("cond", "w", [.str "m"]), ("queue", "q", [.int 1]), ("var", "y", [.int 1]), ("lock", "n", [])]
def tg6 : D := .tup [.tup [.str "lock", .str "m"], .tup [.str "var", .str "x", .int 0], .tup [.str "cond", .str "w", .str "m"], .tup [.str "queue", .str "q", .int 1], .tup [.str "var", .str "y", .int 1], .tup [.str "lock", .str "n"]]
def names7 : List Str := ["guard", "x", "m", "lock", "a", "toolongname", "z9"]
def nmB (x : Str) : Bool := decide (x.length ≤ 50000) && (cs x).all (fun c => decide (c < 0x110000)) && PyData.strOk x && ((!okName x || decide (x ∈ S4.map fun t => t.2.1)) == decide (x ∈ badL)) && ((!okName x || decide (x ∈ S6.map fun t => t.2.1)) == decide (x ∈ badL))
theorem names7_ok : ∀ x ∈ names7, nmB x = true := by decide +kernel
theorem S4_cl : (S4.map Th53.d).all (clN 4) = true := by decide +kernel
theorem S6_cl : (S6.map Th53.d).all (clN 4) = true := by decide +kernel
theorem ref_cl : ∀ w ∈ (["name", "shared", "guards", "many"] : List Str), clN 6 (refD w) = true := by decide +kernel
theorem mv_cl {b : Nat} {i : I52} (h : clN 4 i.d = true) : clN 4 (mvI b i).d = true := by
  unfold mvI
  split
  · rename_i k t e
    split
    · split
      · exact h
      · obtain ⟨w, r⟩ := i
        cases e
        simp only [I52.d, clN, List.all_cons, List.all_nil, Bool.and_true, Bool.true_and, Bool.and_eq_true] at h ⊢
        exact ⟨by decide +kernel, h.2⟩
    · exact h
  · exact h
theorem cf_cl {M : List I52} (hM : ∀ i ∈ M, clN 4 i.d = true) {a b : Nat} {x : Str} (hx : PyData.strOk x = true) : ∀ i ∈ cf M a b x, clN 4 i.d = true := by
  intro i hi
  unfold cf at hi
  have sl : PyData.strOk (Str.ofString "lock") = true := by decide +kernel
  have su : PyData.strOk (Str.ofString "unlock") = true := by decide +kernel
  have hk : clN 4 (lk x).d = true := by
    show (clN 3 (.str "lock") && (clN 3 (.str x) && true)) = true
    rw [sk _ sl, sk _ hx]; rfl
  have hu : clN 4 (ul x).d = true := by
    show (clN 3 (.str "unlock") && (clN 3 (.str x) && true)) = true
    rw [sk _ su, sk _ hx]; rfl
  simp only [List.mem_append, List.mem_singleton] at hi
  rcases hi with (((hi | rfl) | hi) | rfl) | hi
  · exact hM i (List.mem_of_mem_take hi)
  · exact hk
  · exact hM i (List.mem_of_mem_drop (List.mem_of_mem_take hi))
  · exact hu
  · exact hM i (List.mem_of_mem_drop hi)
theorem wl_cl {c : List I52} (hc : ∀ i ∈ c, clN 4 i.d = true) (g : Option (Nat × Nat)) {x : Str} (hx : PyData.strOk x = true) : clN 5 (cdG (wl c g x)) = true := by
  have : ∀ i ∈ wl c g x, clN 4 i.d = true := by
    cases g with
    | none => exact hc
    | some p =>
      obtain ⟨a, b⟩ := p
      refine cf_cl (fun i hi => ?_) hx
      obtain ⟨j, hj, rfl⟩ := List.mem_map.mp hi
      exact mv_cl (hc j hj)
  show ((wl c g x).map I52.d).all (clN 4) = true
  rw [List.all_eq_true]
  intro d hd
  obtain ⟨i, hi, rfl⟩ := List.mem_map.mp hd
  exact this i hi
theorem due_cl {S : List Th53} {c0 c1 : List I52} {gs : List (Option (Nat × Nat))} {x : Str} (h0 : Cg c0) (h1 : Cg c1) (hS : (S.map Th53.d).all (clN 4) = true) (hx : PyData.strOk x = true) : ∃ xs, dueD S c0 c1 gs x = .tup xs ∧ clN 8 (.tup xs) = true := by
  have r : ∀ w ∈ (["name", "shared", "guards", "many"] : List Str), ∃ xs, refD w = .tup xs ∧ clN 8 (.tup xs) = true := fun w hw => ⟨_, rfl, clN_up (ref_cl w hw) (by decide)⟩
  have n : ∀ g0 g1, ∃ xs, newD S c0 c1 g0 g1 x = .tup xs ∧ clN 8 (.tup xs) = true := fun g0 g1 => by
    refine ⟨_, rfl, clN_up (k := 7) ?_ (by decide)⟩
    have q1 : clN 6 (.tup (S.map Th53.d ++ [(lk x).d])) = true := by
      show (S.map Th53.d ++ [(lk x).d]).all (clN 5) = true
      rw [List.all_append, Bool.and_eq_true]
      refine ⟨List.all_eq_true.mpr fun d hd => clN_up (List.all_eq_true.mp hS d hd) (by decide), ?_⟩
      have := cf_cl (M := []) (fun i hi => by cases hi) (a := 0) (b := 0) hx (lk x) (by simp [cf])
      rw [List.all_cons, clN_up this (show 4 ≤ 5 by decide)]; rfl
    have q2 : clN 6 (.tup [cdG (wl c0 g0 x), cdG (wl c1 g1 x)]) = true := by
      show (clN 5 _ && (clN 5 _ && true)) = true
      rw [wl_cl h0.cl g0 hx, wl_cl h1.cl g1 hx]; rfl
    show (clN 6 _ && (clN 6 _ && true)) = true
    rw [q1, q2]; rfl
  unfold dueD
  split
  · exact r _ (by simp)
  · split
    · exact r _ (by simp)
    · unfold dueG
      split
      · split
        · split
          · exact r _ (by simp)
          · exact n _ _
        · exact r _ (by simp)
      · exact r _ (by simp)
theorem k53_law {longer cell things guards told due : Fx} (hcl : CellOk cell) (hth : ∀ s, things [] s = some (tg6, s))
    (hlo : ∀ (st : Sto) (n : Nat) (ns : List Int), getL st n = some (ns.map .int) → ∃ (c0 c1 : List I52) (st2 : Sto), longer [.loc n] st = some (.tup [tg4, .tup [cdG c0, cdG c1]], st2) ∧ Cg c0 ∧ Cg c1 ∧ Ext st st2)
    (hgu : ∀ (S : List Th53) (c0 c1 : List I52), Cg c0 → Cg c1 → ∀ (st : Sto) (n : Nat) (ns : List Int), getL st n = some (ns.map .int) → ∃ (g0 g1 : Option (Nat × Nat)) (st2 : Sto), guards [.loc n, pD S c0 c1] st = some (.tup [gD g0, gD g1], st2) ∧ Ext st st2)
    (hto : ∀ (S : List Th53) (c0 c1 : List I52) (gs : List (Option (Nat × Nat))) (x : Str), Cg c0 → Cg c1 → (0 < S.length ∧ S.length ≤ 100) → x.length ≤ 50000 → okS x → (!okName x || decide (x ∈ S.map fun t => t.2.1)) = decide (x ∈ badL) → ∀ s, Rt s told [pD S c0 c1, .tup (gs.map gD), .str x] (dueD S c0 c1 gs x))
    (hdu : ∀ (S : List Th53) (c0 c1 : List I52) (gs : List (Option (Nat × Nat))) (x : Str), Cg c0 → Cg c1 → (0 < S.length ∧ S.length ≤ 100) → ∀ s, Rt s due [pD S c0 c1, .tup (gs.map gD), .str x] (dueD S c0 c1 gs x)) :
    ∀ ns : List Int, ns.length ≤ 63 → ∃ st', runF 6 1 (b_law longer cell things guards told due) [.loc 0] [.frz (ns.map .int)] = some (.bl true, st') := by
  intro ns hns
  suffices q : ∃ d s, runF 6 1 (b_law longer cell things guards told due) [.loc 0] [.frz (ns.map .int)] = some (d, s) ∧ d = .bl true by
    obtain ⟨d, s, e, rfl⟩ := q
    exact ⟨s, e⟩
  obtain ⟨c0, c1, s1, e1, h0, h1, x1⟩ := hlo [.frz (ns.map .int)] 0 ns rfl
  have hn1 : getL s1 0 = some (ns.map .int) := x1.getL (xs := ns.map .int) rfl
  refine wp_run rfl ?_
  have hsl : List.map some [D.loc 0] ++ List.replicate (6 - 1) none = [some (.loc 0), none, none, none, none, none] := rfl
  rw [hsl]
  unfold b_law
  have hcell : ∀ (s : Sto) (σ : Sl) (f : SE) (k : Nat) (m : Int), 0 < m → getL s 0 = some (ns.map .int) → σ[0]? = some (some (.loc 0)) → Ev s f σ (.int (k : Nat)) → Ev s (binF modO (appF intOf (consF (callF cell (consF (varF 0) (consF f nilF))) nilF)) (cstF (.int m))) σ (.int (ns.getD k 0 % m)) := fun s σ f k m hm hn hs hf =>
    Ev.bin (Ev.app (Ea.cons (Ev.call (Ea.cons (Ev.var hs) (Ea.cons hf Ea.nil)) (d := .int (ns.getD k 0)) fun st4 k4 => ⟨st4, hcl st4 0 ns (k4.getL hn) k, Ext.refl⟩) Ea.nil) o_inti) Ev.cst (o_mod (by simp [cPos]; exact hm))
  refine wp_nx (σ1 := [some (.loc 0), some (pD S4 c0 c1), none, none, none, none]) (st1 := s1) (by simp only [asgS_eq, callF_eq, consF_eq, nilF_eq, varF_eq, bnd_some, List.getElem?_cons_zero, e1]; rfl) ?_
  -- perhaps six shared things
  refine wp_seq (wp_mono (Q := fun r s => ∃ S : List Th53, (S = S4 ∨ S = S6) ∧ r = .nx [some (.loc 0), some (pD S c0 c1), none, none, none, none] ∧ Ext s1 s) (wp_ifE (Et.cmp (hcell s1 _ _ 6 7 (by decide) hn1 rfl Ev.cst) Ev.cst o_eqii) (fun _ s2 x2 => ?_) (fun _ s2 x2 => wp_skip ⟨S4, .inl rfl, rfl, x2⟩)) ?_)
  · refine wp_asg (d := pD S6 c0 c1) (st1 := s2) ?_ rfl ⟨S6, .inr rfl, rfl, x2⟩
    have i1 : ixO (pD S4 c0 c1) (.int 1) s2 = some (.tup [cdG c0, cdG c1], s2) := rfl
    simp only [tupF_eq, consF_eq, callF_eq, nilF_eq, binF_eq, varF_eq, cstF_eq, bnd_some, List.getElem?_cons_zero, List.getElem?_cons_succ, hth, i1]
    rfl
  rintro r s2 ⟨S, hS, rfl, x2⟩
  have hS1 : 0 < S.length ∧ S.length ≤ 100 := by rcases hS with rfl | rfl <;> decide
  have hScl : (S.map Th53.d).all (clN 4) = true := by
    rcases hS with rfl | rfl
    · exact S4_cl
    · exact S6_cl
  have hnm : ∀ x ∈ names7, x.length ≤ 50000 ∧ okS x ∧ PyData.strOk x = true ∧ (!okName x || decide (x ∈ S.map fun t => t.2.1)) = decide (x ∈ badL) := fun x hx => by
    have := names7_ok x hx
    unfold nmB at this
    simp only [Bool.and_eq_true, decide_eq_true_eq, beq_iff_eq, List.all_eq_true] at this
    obtain ⟨⟨⟨⟨a, b⟩, c⟩, d⟩, e⟩ := this
    refine ⟨a, b, c, ?_⟩
    rcases hS with rfl | rfl
    · exact d
    · exact e
  obtain ⟨PD, hPD⟩ : ∃ PD, PD = pD S c0 c1 := ⟨_, rfl⟩
  rw [← hPD]
  refine wp_asLv (Lv.lst (xs := names7.map .str) (Ea.cons Ev.cst (Ea.cons Ev.cst (Ea.cons Ev.cst (Ea.cons Ev.cst (Ea.cons Ev.cst (Ea.cons Ev.cst (Ea.cons Ev.cst Ea.nil))))))) (by decide)) fun s3 n3 x3 g3 => ?_
  obtain ⟨g0, g1, s4, e4, x4⟩ := hgu S c0 c1 h0 h1 s3 0 ns ((x2.trans x3).getL hn1)
  rw [← hPD] at e4
  refine wp_nx (σ1 := [some (.loc 0), some PD, some (.loc n3), some (.tup [gD g0, gD g1]), none, none]) (st1 := s4) (by
    show asgS _ _ [some (.loc 0), some PD, some (.loc n3), none, none, none] s3 = _
    simp only [asgS_eq, callF_eq, consF_eq, nilF_eq, varF_eq, bnd_some, List.getElem?_cons_zero, List.getElem?_cons_succ, e4]; rfl) ?_
  have hn4 := ((x2.trans x3).trans x4).getL hn1
  -- perhaps one guard
  refine wp_seq (wp_mono (Q := fun r s => ∃ gs : List (Option (Nat × Nat)), r = .nx [some (.loc 0), some PD, some (.loc n3), some (.tup (gs.map gD)), none, none] ∧ Ext s4 s) (wp_ifE (Et.cmp (hcell s4 _ _ 7 9 (by decide) hn4 rfl Ev.cst) Ev.cst o_eqii) (fun _ s5 x5 => ?_) (fun _ s5 x5 => wp_skip ⟨[g0, g1], rfl, x5⟩)) ?_)
  · refine wp_endE (Es.asgN (Ev.sl (Ev.var rfl) Eo.none (Eo.some Ev.cst) (d := .tup [gD g0]) ?_)) fun s6 x6 => ⟨[g0], rfl, x5.trans x6⟩
    have e : cutD [gD g0, gD g1] none (some 1) = [gD g0] := rfl
    have := o_cut (s := s5) (xs := [gD g0, gD g1]) (l := none) (u := some 1) (by rw [e]; cases g0 <;> rfl)
    rwa [e] at this
  rintro r s5 ⟨gs, rfl, x5⟩
  have hn5 := x5.getL hn4
  have g5 := (x4.trans x5).at g3
  refine wp_seq (wp_forR2 (v := 8) (u := 12) (fun j σ s => ∃ x4 x5, σ = [some (.loc 0), some PD, some (.loc n3), some (.tup (gs.map gD)), x4, x5] ∧ Ext s5 s) (Ea.cons Ev.cst (Ea.cons Ev.cst Ea.nil)) (by decide) (by decide) (fun s6 x6 => ⟨_, _, rfl, x6⟩) ?_ ?_)
  · rintro j σ s hj ⟨y4, y5, rfl, xx⟩
    refine ⟨[some (.loc 0), some PD, some (.loc n3), some (.tup (gs.map gD)), some (.int ((8 + j : Nat) : Int)), y5], rfl, ?_⟩
    obtain ⟨m, hm, hm7⟩ : ∃ m : Nat, ns.getD (8 + j) 0 % 7 = m ∧ m < 7 := ⟨(ns.getD (8 + j) 0 % 7).toNat, by omega, by omega⟩
    obtain ⟨x, ex⟩ : ∃ x, names7[m]? = some x := ⟨names7[m]'hm7, List.getElem?_eq_getElem hm7⟩
    have xm := List.mem_of_getElem? ex
    obtain ⟨a1, a2, a3, a4⟩ := hnm x xm
    refine wp_asE (d := .str x) (Ev.bin (Ev.var rfl) (Ev.of (hcell s _ _ (8 + j) 7 (by decide) (xx.getL hn5) rfl (Ev.var rfl)) (by rw [hm])) (o_ixL (getL_of (xx.at g5)) (by rw [List.getElem?_map, ex]; rfl))) fun s6 x6 => ?_
    obtain ⟨xs, hd, hcl'⟩ := due_cl (gs := gs) h0 h1 hScl a3
    have t1 := hto S c0 c1 gs x h0 h1 hS1 a1 a2 a4 s6
    have t2 := hdu S c0 c1 gs x h0 h1 hS1 s6
    rw [← hPD, hd] at t1 t2
    refine wp_ifE (b := false) (Et.cmp (Ev.call (xs := [PD, .tup (gs.map gD), .str x]) (Ea.cons (Ev.var rfl) (Ea.cons (Ev.var rfl) (Ea.cons (Ev.var rfl) Ea.nil))) t1) (Ev.call (xs := [PD, .tup (gs.map gD), .str x]) (Ea.cons (Ev.var rfl) (Ea.cons (Ev.var rfl) (Ea.cons (Ev.var rfl) Ea.nil))) t2) (O2.pure fun st => ne_self hcl' (by decide) true st)) (fun h => by cases h) (fun _ s7 x7 => wp_skip ⟨_, _, rfl, (xx.trans x6).trans x7⟩)
  · rintro σ s ⟨y4, y5, rfl, xx⟩
    exact wp_ret (d := .bl true) (st1 := s) rfl rfl
abbrev top (i : Nat) : Stmt := PySem.Challenge.pw_everyturn_k53_guarded_programs.main.body.getD i (.Pass ⟨0, 0, 0, 0⟩)
def clsInit (s : Stmt) : Stmt := match s with
  | .ClassDef _ _ _ b _ _ _ _ _ _ _ => b.getD 0 (.Pass ⟨0, 0, 0, 0⟩)
  | s => s
abbrev s_tokens : Stmt := top 9
abbrev N_tokens : List Str := ["line", "found", "at", "token"]
theorem sc_tokens : FnScope N_tokens ["line"] (defScope s_tokens) := ⟨rfl, rfl, rfl, by decide +kernel, rfl, by decide +kernel, by decide +kernel⟩
abbrev s__token_at : Stmt := top 10
abbrev N__token_at : List Str := ["line", "at", "run"]
theorem sc__token_at : FnScope N__token_at ["line", "at"] (defScope s__token_at) := ⟨rfl, rfl, rfl, by decide +kernel, rfl, by decide +kernel, by decide +kernel⟩
abbrev s__run_at : Stmt := top 11
abbrev N__run_at : List Str := ["line", "at", "characters", "end"]
theorem sc__run_at : FnScope N__run_at ["line", "at", "characters"] (defScope s__run_at) := ⟨rfl, rfl, rfl, by decide +kernel, rfl, by decide +kernel, by decide +kernel⟩
abbrev s__is_number : Stmt := top 12
abbrev N__is_number : List Str := ["digits"]
theorem sc__is_number : FnScope N__is_number ["digits"] (defScope s__is_number) := ⟨rfl, rfl, rfl, by decide +kernel, rfl, by decide +kernel, by decide +kernel⟩
abbrev s_is_name : Stmt := top 15
abbrev N_is_name : List Str := ["text"]
theorem sc_is_name : FnScope N_is_name ["text"] (defScope s_is_name) := ⟨rfl, rfl, rfl, by decide +kernel, rfl, by decide +kernel, by decide +kernel⟩
abbrev s__can_be_guarded : Stmt := top 20
abbrev N__can_be_guarded : List Str := ["instructions", "span", "first", "last", "within", "instruction", "led_to", "pc"]
theorem sc__can_be_guarded : FnScope N__can_be_guarded ["instructions", "span"] (defScope s__can_be_guarded) := ⟨rfl, rfl, rfl, by decide +kernel, rfl, by decide +kernel, by decide +kernel⟩
abbrev s_guarded : Stmt := top 21
abbrev N_guarded : List Str := ["program", "guards", "name", "shared", "threads", "thing", "instructions", "span", "changed"]
theorem sc_guarded : FnScope N_guarded ["program", "guards", "name"] (defScope s_guarded) := ⟨rfl, rfl, rfl, by decide +kernel, rfl, by decide +kernel, by decide +kernel⟩
abbrev s__fits : Stmt := top 22
abbrev N__fits : List Str := ["instructions", "span"]
theorem sc__fits : FnScope N__fits ["instructions", "span"] (defScope s__fits) := ⟨rfl, rfl, rfl, by decide +kernel, rfl, by decide +kernel, by decide +kernel⟩
abbrev s__with_lock : Stmt := top 23
abbrev N__with_lock : List Str := ["instructions", "span", "name", "first", "last", "moved", "instruction", "ahead", "inner", "behind"]
theorem sc__with_lock : FnScope N__with_lock ["instructions", "span", "name"] (defScope s__with_lock) := ⟨rfl, rfl, rfl, by decide +kernel, rfl, by decide +kernel, by decide +kernel⟩
abbrev s__led_past : Stmt := top 24
abbrev N__led_past : List Str := ["instruction", "last"]
theorem sc__led_past : FnScope N__led_past ["instruction", "last"] (defScope s__led_past) := ⟨rfl, rfl, rfl, by decide +kernel, rfl, by decide +kernel, by decide +kernel⟩
abbrev s__law_cell : Stmt := top 26
abbrev N__law_cell : List Str := ["script", "k"]
theorem sc__law_cell : FnScope N__law_cell ["script", "k"] (defScope s__law_cell) := ⟨rfl, rfl, rfl, by decide +kernel, rfl, by decide +kernel, by decide +kernel⟩
abbrev s__law_digits : Stmt := top 27
abbrev N__law_digits : List Str := ["cell", "k", "most", "digits", "turn", "seed"]
theorem sc__law_digits : FnScope N__law_digits ["cell", "k", "most"] (defScope s__law_digits) := ⟨rfl, rfl, rfl, by decide +kernel, rfl, by decide +kernel, by decide +kernel⟩
abbrev s__law_padded : Stmt := top 28
abbrev N__law_padded : List Str := ["cell", "k", "d", "turn"]
theorem sc__law_padded : FnScope N__law_padded ["cell", "k"] (defScope s__law_padded) := ⟨rfl, rfl, rfl, by decide +kernel, rfl, by decide +kernel, by decide +kernel⟩
abbrev s__law_things : Stmt := top 29
abbrev N__law_things : List Str := []
theorem sc__law_things : FnScope N__law_things [] (defScope s__law_things) := ⟨rfl, rfl, rfl, by decide +kernel, rfl, by decide +kernel, by decide +kernel⟩
abbrev s__law_piece : Stmt := top 30
abbrev N__law_piece : List Str := ["digit", "pc", "add", "less", "pieces"]
theorem sc__law_piece : FnScope N__law_piece ["digit", "pc"] (defScope s__law_piece) := ⟨rfl, rfl, rfl, by decide +kernel, rfl, by decide +kernel, by decide +kernel⟩
abbrev s__law_longer : Stmt := top 31
abbrev N__law_longer : List Str := ["script", "pieces", "k", "d", "code", "j", "piece", "things"]
theorem sc__law_longer : FnScope N__law_longer ["script"] (defScope s__law_longer) := ⟨rfl, rfl, rfl, by decide +kernel, rfl, by decide +kernel, by decide +kernel⟩
abbrev s__law_plain : Stmt := top 32
abbrev N__law_plain : List Str := ["code", "found", "instruction"]
theorem sc__law_plain : FnScope N__law_plain ["code"] (defScope s__law_plain) := ⟨rfl, rfl, rfl, by decide +kernel, rfl, by decide +kernel, by decide +kernel⟩
abbrev s__law_guardable : Stmt := top 33
abbrev N__law_guardable : List Str := ["code", "first", "last", "k", "instruction"]
theorem sc__law_guardable : FnScope N__law_guardable ["code", "first", "last"] (defScope s__law_guardable) := ⟨rfl, rfl, rfl, by decide +kernel, rfl, by decide +kernel, by decide +kernel⟩
abbrev s__law_place : Stmt := top 34
abbrev N__law_place : List Str := ["place", "span"]
theorem sc__law_place : FnScope N__law_place ["place", "span"] (defScope s__law_place) := ⟨rfl, rfl, rfl, by decide +kernel, rfl, by decide +kernel, by decide +kernel⟩
abbrev s__law_code : Stmt := top 35
abbrev N__law_code : List Str := ["code", "span", "name", "found", "k", "instruction"]
theorem sc__law_code : FnScope N__law_code ["code", "span", "name"] (defScope s__law_code) := ⟨rfl, rfl, rfl, by decide +kernel, rfl, by decide +kernel, by decide +kernel⟩
abbrev s__law_guards : Stmt := top 36
abbrev N__law_guards : List Str := ["script", "program", "guards", "k", "cell", "size", "span"]
theorem sc__law_guards : FnScope N__law_guards ["script", "program"] (defScope s__law_guards) := ⟨rfl, rfl, rfl, by decide +kernel, rfl, by decide +kernel, by decide +kernel⟩
abbrev s__law_due : Stmt := top 37
abbrev N__law_due : List Str := ["program", "guards", "name", "k", "threads"]
theorem sc__law_due : FnScope N__law_due ["program", "guards", "name"] (defScope s__law_due) := ⟨rfl, rfl, rfl, by decide +kernel, rfl, by decide +kernel, by decide +kernel⟩
abbrev s__law_told : Stmt := top 38
abbrev N__law_told : List Str := ["program", "guards", "name", "e"]
theorem sc__law_told : FnScope N__law_told ["program", "guards", "name"] (defScope s__law_told) := ⟨rfl, rfl, rfl, by decide +kernel, rfl, by decide +kernel, by decide +kernel⟩
abbrev s_law : Stmt := top 39
abbrev N_law : List Str := ["script", "program", "names", "guards", "k", "name"]
theorem sc_law : FnScope N_law ["script"] (defScope s_law) := ⟨rfl, rfl, rfl, by decide +kernel, rfl, by decide +kernel, by decide +kernel⟩
abbrev s_init_NoSuchPlace : Stmt := clsInit (top 2)
theorem sc_init_NoSuchPlace : FnScope ("self" :: flds "NoSuchPlace") ("self" :: flds "NoSuchPlace") (defScope s_init_NoSuchPlace) := ⟨rfl, rfl, rfl, by decide +kernel, rfl, by decide +kernel, by decide +kernel⟩
theorem d_tokens {P : Program} {w : World} {K : PySem.W.Frag} {mg : Str → Option Value} {base : Heap} {k : Nat} {p__token_at : Fx} (C__token_at : Cal P w K mg base k "_token_at" ["line", "at"] p__token_at)     (z_len : mg "len" = none) (f : Addr) (cdv : Value) (A : Around) (outer : List PySem.Env) (s : Shared) (H : Hp) (E : XK) (hr : Room k (A.deeper (PyProof.Rows.envOfC "tokens" (defScope s_tokens) s.heap.objs.size f cdv))) :
    PSs (cxOf CX0 P w K mg base N_tokens "tokens" (defScope s_tokens) f cdv A outer s H E).nox (defBody s_tokens) (rdS K w (b_tokens p__token_at)) := by
  have nd := sc_tokens.nd
  exact (ss_cons (ss_set (i := 1) nd rfl (by first | exact Or.inl rfl | exact Or.inr rfl) (se_lst sa_nil))
  (ss_cons (ss_set (i := 2) nd rfl (by first | exact Or.inl rfl | exact Or.inr rfl) se_int)
  (ss_cons (ss_while (n := 100000) PassesOwn.never (t_cmp cm_lt (se_var (pv 2)) (e_len rfl z_len (sa_cons (se_var (pv 0)) sa_nil))) (ss_one (ss_if (t_cmp (cm_eq (r64 hr)) (e_ix (se_var (pv 0)) (se_var (pv 2))) se_str) (ss_one (s_iadd (i := 2) nd rfl (by first | exact Or.inl rfl | exact Or.inr rfl) se_int)) (ss_cons (ss_set (i := 3) nd rfl (by first | exact Or.inl rfl | exact Or.inr rfl) (e_call C__token_at hr rfl (sa_cons (se_var (pv 0)) (sa_cons (se_var (pv 2)) sa_nil))))
  (ss_cons (ss_expr (e_append (se_var (pv 1)) (sa_cons (se_var (pv 3)) sa_nil)))
  (ss_one (s_iadd (i := 2) nd rfl (by first | exact Or.inl rfl | exact Or.inr rfl) (e_len rfl z_len (sa_cons (e_ix (se_var (pv 3)) se_int) sa_nil)))))))))
  (ss_one (ss_ret (se_var (pv 1)))))))
theorem d__token_at {P : Program} {w : World} {K : PySem.W.Frag} {mg : Str → Option Value} {base : Heap} {k : Nat} {p__run_at : Fx} (C__run_at : Cal P w K mg base k "_run_at" ["line", "at", "characters"] p__run_at) {p__is_number : Fx} (C__is_number : Cal P w K mg base k "_is_number" ["digits"] p__is_number)    (k_DIGITS : Con K mg "DIGITS" c_DIGITS) (k_LETTERS : Con K mg "LETTERS" c_LETTERS) (k_LONGEST_WORD : Con K mg "LONGEST_WORD" c_LONGEST_WORD) (k_SIGNS : Con K mg "SIGNS" c_SIGNS) (z_len : mg "len" = none) (f : Addr) (cdv : Value) (A : Around) (outer : List PySem.Env) (s : Shared) (H : Hp) (E : XK) (hr : Room k (A.deeper (PyProof.Rows.envOfC "_token_at" (defScope s__token_at) s.heap.objs.size f cdv))) :
    PSs (cxOf CX0 P w K mg base N__token_at "_token_at" (defScope s__token_at) f cdv A outer s H E).nox (defBody s__token_at) (rdS K w (b__token_at p__run_at p__is_number)) := by
  have nd := sc__token_at.nd
  exact (ss_cons (ss_if (t_cmp (cm_in (r65 hr)) (e_ix (se_var (pv 0)) (se_var (pv 1))) (e_con k_DIGITS rfl)) (ss_cons (ss_set (i := 2) nd rfl (by first | exact Or.inl rfl | exact Or.inr rfl) (e_call C__run_at hr rfl (sa_cons (se_var (pv 0)) (sa_cons (se_var (pv 1)) (sa_cons (e_con k_DIGITS rfl) sa_nil)))))
  (ss_one (ss_ret (se_tup (sa_cons (se_if (st_tru (e_call C__is_number hr rfl (sa_cons (se_var (pv 2)) sa_nil))) se_str se_str) (sa_cons (se_var (pv 2)) sa_nil)))))) ss_nil)
  (ss_cons (ss_if (t_cmp (cm_in (r65 hr)) (e_ix (se_var (pv 0)) (se_var (pv 1))) (e_con k_LETTERS rfl)) (ss_cons (ss_set (i := 2) nd rfl (by first | exact Or.inl rfl | exact Or.inr rfl) (e_call C__run_at hr rfl (sa_cons (se_var (pv 0)) (sa_cons (se_var (pv 1)) (sa_cons (e_add (e_con k_LETTERS rfl) (e_con k_DIGITS rfl)) sa_nil)))))
  (ss_one (ss_ret (se_tup (sa_cons (se_if (t_cmp cm_le (e_len rfl z_len (sa_cons (se_var (pv 2)) sa_nil)) (e_con k_LONGEST_WORD rfl)) se_str se_str) (sa_cons (se_var (pv 2)) sa_nil)))))) ss_nil)
  (ss_one (ss_ret (se_tup (sa_cons (se_if (t_cmp (cm_in (r65 hr)) (e_ix (se_var (pv 0)) (se_var (pv 1))) (e_con k_SIGNS rfl)) se_str se_str) (sa_cons (e_ix (se_var (pv 0)) (se_var (pv 1))) sa_nil)))))))
theorem d__run_at {P : Program} {w : World} {K : PySem.W.Frag} {mg : Str → Option Value} {base : Heap} {k : Nat}      (z_len : mg "len" = none) (f : Addr) (cdv : Value) (A : Around) (outer : List PySem.Env) (s : Shared) (H : Hp) (E : XK) (hr : Room k (A.deeper (PyProof.Rows.envOfC "_run_at" (defScope s__run_at) s.heap.objs.size f cdv))) :
    PSs (cxOf CX0 P w K mg base N__run_at "_run_at" (defScope s__run_at) f cdv A outer s H E).nox (defBody s__run_at) (rdS K w (b__run_at )) := by
  have nd := sc__run_at.nd
  exact (ss_cons (ss_set (i := 3) nd rfl (by first | exact Or.inl rfl | exact Or.inr rfl) (se_var (pv 1)))
  (ss_cons (ss_while (n := 100000) PassesOwn.never (PW.pt (sw_and (t_cmp cm_lt (se_var (pv 3)) (e_len rfl z_len (sa_cons (se_var (pv 0)) sa_nil))) (sw_and1 (t_cmp (cm_in (r65 hr)) (e_ix (se_var (pv 0)) (se_var (pv 3))) (se_var (pv 2)))))) (ss_one (s_iadd (i := 3) nd rfl (by first | exact Or.inl rfl | exact Or.inr rfl) se_int)))
  (ss_one (ss_ret (e_slice (se_var (pv 0)) (so_some (se_var (pv 1))) (so_some (se_var (pv 3))))))))
theorem d__is_number {P : Program} {w : World} {K : PySem.W.Frag} {mg : Str → Option Value} {base : Heap} {k : Nat}      (z_len : mg "len" = none) (f : Addr) (cdv : Value) (A : Around) (outer : List PySem.Env) (s : Shared) (H : Hp) (E : XK) (hr : Room k (A.deeper (PyProof.Rows.envOfC "_is_number" (defScope s__is_number) s.heap.objs.size f cdv))) :
    PSs (cxOf CX0 P w K mg base N__is_number "_is_number" (defScope s__is_number) f cdv A outer s H E).nox (defBody s__is_number) (rdS K w (b__is_number )) := by
  have nd := sc__is_number.nd
  exact (ss_one (ss_ret (se_or (e_cmp (cm_eq (r64 hr)) (e_len rfl z_len (sa_cons (se_var (pv 0)) sa_nil)) se_int) (se_one (se_and (e_cmp (cm_eq (r64 hr)) (e_len rfl z_len (sa_cons (se_var (pv 0)) sa_nil)) se_int) (se_one (e_cmp (cm_ne (r64 hr)) (e_ix (se_var (pv 0)) se_int) se_str)))))))
theorem d_is_name {P : Program} {w : World} {K : PySem.W.Frag} {mg : Str → Option Value} {base : Heap} {k : Nat} {p_tokens : Fx} (C_tokens : Cal P w K mg base k "tokens" ["line"] p_tokens)    (k_REGISTERS : Con K mg "REGISTERS" c_REGISTERS) (k_RESERVED : Con K mg "RESERVED" c_RESERVED)  (f : Addr) (cdv : Value) (A : Around) (outer : List PySem.Env) (s : Shared) (H : Hp) (E : XK) (hr : Room k (A.deeper (PyProof.Rows.envOfC "is_name" (defScope s_is_name) s.heap.objs.size f cdv))) :
    PSs (cxOf CX0 P w K mg base N_is_name "is_name" (defScope s_is_name) f cdv A outer s H E).nox (defBody s_is_name) (rdS K w (b_is_name p_tokens)) := by
  have nd := sc_is_name.nd
  exact (ss_one (ss_ret (se_and (e_cmp (cm_eq (r64 hr)) (e_call C_tokens hr rfl (sa_cons (se_var (pv 0)) sa_nil)) (se_lst (sa_cons (se_tup (sa_cons se_str (sa_cons (se_var (pv 0)) sa_nil))) sa_nil))) (se_and (e_cmp (cm_notin (r65 hr)) (se_var (pv 0)) (e_con k_REGISTERS rfl)) (se_one (e_cmp (cm_notin (r65 hr)) (se_var (pv 0)) (e_con k_RESERVED rfl)))))))
theorem d__can_be_guarded {P : Program} {w : World} {K : PySem.W.Frag} {mg : Str → Option Value} {base : Heap} {k : Nat}     (k_INNER : Con K mg "INNER" c_INNER) (z_all : mg "all" = none) (z_any : mg "any" = none) (f : Addr) (cdv : Value) (A : Around) (outer : List PySem.Env) (s : Shared) (H : Hp) (E : XK) (hr : Room k (A.deeper (PyProof.Rows.envOfC "_can_be_guarded" (defScope s__can_be_guarded) s.heap.objs.size f cdv))) :
    PSs (cxOf CX0 P w K mg base N__can_be_guarded "_can_be_guarded" (defScope s__can_be_guarded) f cdv A outer s H E).nox (defBody s__can_be_guarded) (rdS K w (b__can_be_guarded )) := by
  have nd := sc__can_be_guarded.nd
  exact (ss_cons (ss_asg (se_var (pv 1)) (pg_tup rfl (pgs_cons (pg_name (i := 2) nd rfl (by first | exact Or.inl rfl | exact Or.inr rfl)) (pgs_cons (pg_name (i := 3) nd rfl (by first | exact Or.inl rfl | exact Or.inr rfl)) pgs_nil))) (ok_tup (n := 2) (ok_gcons (i := 2) (ok_gcons (i := 3) ok_gnil)) rfl))
  (ss_cons (s_setLc (i := 4) (own := [("instruction", 5)]) (g := (nmG 5)) rfl nd (si_any (e_slice (se_var (pv 0)) (so_some (se_var (pv 2))) (so_some (e_add (se_var (pv 3)) se_int)))) (blkOk_by (N := N__can_be_guarded) (sc := defScope s__can_be_guarded) (by decide +kernel)) (fun _ _ _ _ _ => (pg_name (i := 5) nd rfl (by first | exact Or.inl rfl | exact Or.inr rfl))) ok_name (own_name (by decide)) (fun _ _ _ _ _ => ts_nil) (fun _ _ _ _ _ => (e_cmp (cm_in (r65 hr)) (e_ix (se_var (pv 5)) se_int) (e_con k_INNER rfl))))
  (ss_cons (s_setLc (i := 6) (own := [("instruction", 5)]) (g := (nmG 5)) rfl nd (si_any (se_var (pv 0))) (blkOk_by (N := N__can_be_guarded) (sc := defScope s__can_be_guarded) (by decide +kernel)) (fun _ _ _ _ _ => (pg_name (i := 5) nd rfl (by first | exact Or.inl rfl | exact Or.inr rfl))) ok_name (own_name (by decide)) (fun _ _ _ _ _ => (ts_one (t_cmp (cm_eq (r64 hr)) (e_ix (se_var (pv 5)) se_int) se_str))) (fun _ _ _ _ _ => (e_ix (se_var (pv 5)) se_int)))
  (ss_one (ss_ret (se_and (e_all rfl rfl z_all (sa_cons (se_var (pv 4)) sa_nil)) (se_one (se_not (e_any rfl rfl z_any (sa_cons (se_comp (own := [("pc", 7)]) (g := (nmG 7)) rfl nd (si_any (se_var (pv 6))) (blkOk_by (N := N__can_be_guarded) (sc := defScope s__can_be_guarded) (by decide +kernel)) (fun _ _ _ _ _ => (pg_name (i := 7) nd rfl (by first | exact Or.inl rfl | exact Or.inr rfl))) ok_name (own_name (by decide)) (fun _ _ _ _ _ => ts_nil) (fun _ _ _ _ _ => (e_chain cm_lt cm_le (se_var (pv 2)) (se_var (pv 7)) (se_var (pv 3))))) sa_nil))))))))))
theorem dx_guarded {P : Program} {w : World} {K : PySem.W.Frag} {mg : Str → Option Value} {base : Heap} {k : Nat} {p_is_name : Fx} (C_is_name : Cal P w K mg base k "is_name" ["text"] p_is_name) {p__fits : Fx} (C__fits : Cal P w K mg base k "_fits" ["instructions", "span"] p__fits) {p__with_lock : Fx} (C__with_lock : Cal P w K mg base k "_with_lock" ["instructions", "span", "name"] p__with_lock)   (M_NoSuchPlace : MkC P w K mg base "NoSuchPlace") {p_rz : Bool} (C_rz : p_rz = true → 2 ≤ k) (k_MOST_THINGS : Con K mg "MOST_THINGS" c_MOST_THINGS) (k_MOST_INSTRUCTIONS : Con K mg "MOST_INSTRUCTIONS" c_MOST_INSTRUCTIONS) (z_len : mg "len" = none) (z_all : mg "all" = none) (z_zip : mg "zip" = none) (z_any : mg "any" = none) (z_tuple : mg "tuple" = none) (f : Addr) (cdv : Value) (A : Around) (outer : List PySem.Env) (s : Shared) (H : Hp) (E : XK) (hr : Room k (A.deeper (PyProof.Rows.envOfC "guarded" (defScope s_guarded) s.heap.objs.size f cdv))) :
    PSs (cxOf (L2N.CX P w) P w K mg base N_guarded "guarded" (defScope s_guarded) f cdv A outer s H E) (defBody s_guarded) (rdX K w mg (fun cls d _ H => E cls d H) (bx_guarded p_is_name p__fits p__with_lock p_rz)) := by
  have nd := sc_guarded.nd
  exact (sx_cons (sx_lift (ss_asg (se_var (pv 0)) (pg_tup rfl (pgs_cons (pg_name (i := 3) nd rfl (by first | exact Or.inl rfl | exact Or.inr rfl)) (pgs_cons (pg_name (i := 4) nd rfl (by first | exact Or.inl rfl | exact Or.inr rfl)) pgs_nil))) (ok_tup (n := 2) (ok_gcons (i := 3) (ok_gcons (i := 4) ok_gnil)) rfl)))
  (sx_cons (sx_if (PW.pt (sw_or (st_not (st_tru (e_call C_is_name hr rfl (sa_cons (se_var (pv 2)) sa_nil)))) (sw_or1 (t_cmp (cm_in (r65 hr)) (se_var (pv 2)) (se_comp (own := [("thing", 5)]) (g := (nmG 5)) rfl nd (si_any (se_var (pv 3))) (blkOk_by (N := N_guarded) (sc := defScope s_guarded) (by decide +kernel)) (fun _ _ _ _ _ => (pg_name (i := 5) nd rfl (by first | exact Or.inl rfl | exact Or.inr rfl))) ok_name (own_name (by decide)) (fun _ _ _ _ _ => ts_nil) (fun _ _ _ _ _ => (e_ix (se_var (pv 5)) se_int))))))) (sx_one (sx_raise rfl M_NoSuchPlace (L2N.takes_of rfl rfl rfl rfl) hr C_rz rfl (sa_cons se_str sa_nil))) sx_nil)
  (sx_cons (sx_if (t_cmp cm_ge (e_len rfl z_len (sa_cons (se_var (pv 3)) sa_nil)) (e_con k_MOST_THINGS rfl)) (sx_one (sx_raise rfl M_NoSuchPlace (L2N.takes_of rfl rfl rfl rfl) hr C_rz rfl (sa_cons se_str sa_nil))) sx_nil)
  (sx_cons (sx_if (t_cmp (cm_ne (r64 hr)) (e_len rfl z_len (sa_cons (se_var (pv 1)) sa_nil)) (e_len rfl z_len (sa_cons (se_var (pv 4)) sa_nil))) (sx_one (sx_raise rfl M_NoSuchPlace (L2N.takes_of rfl rfl rfl rfl) hr C_rz rfl (sa_cons se_str sa_nil))) sx_nil)
  (sx_cons (sx_if (st_not (st_tru (e_all rfl rfl z_all (sa_cons (se_comp (own := [("instructions", 6), ("span", 7)]) (g := (tupG [6, 7])) rfl nd (si_zip rfl z_zip (sa_cons (se_var (pv 4)) (sa_cons (se_var (pv 1)) sa_nil))) (blkOk_by (N := N_guarded) (sc := defScope s_guarded) (by decide +kernel)) (fun _ _ _ _ _ => (pg_tup rfl (pgs_cons (pg_name (i := 6) nd rfl (by first | exact Or.inl rfl | exact Or.inr rfl)) (pgs_cons (pg_name (i := 7) nd rfl (by first | exact Or.inl rfl | exact Or.inr rfl)) pgs_nil)))) (ok_tup (n := 2) (ok_gcons (i := 6) (ok_gcons (i := 7) ok_gnil)) rfl) (own_tup (own_cons (i := 6) (by decide) (own_cons (i := 7) (by decide) own_nil))) (fun _ _ _ _ _ => ts_nil) (fun _ _ _ _ _ => (e_call C__fits hr rfl (sa_cons (se_var (pv 6)) (sa_cons (se_var (pv 7)) sa_nil))))) sa_nil)))) (sx_one (sx_raise rfl M_NoSuchPlace (L2N.takes_of rfl rfl rfl rfl) hr C_rz rfl (sa_cons se_str sa_nil))) sx_nil)
  (sx_cons (sx_lift (s_setLc (i := 8) (own := [("instructions", 6), ("span", 7)]) (g := (tupG [6, 7])) rfl nd (si_zip rfl z_zip (sa_cons (se_var (pv 4)) (sa_cons (se_var (pv 1)) sa_nil))) (blkOk_by (N := N_guarded) (sc := defScope s_guarded) (by decide +kernel)) (fun _ _ _ _ _ => (pg_tup rfl (pgs_cons (pg_name (i := 6) nd rfl (by first | exact Or.inl rfl | exact Or.inr rfl)) (pgs_cons (pg_name (i := 7) nd rfl (by first | exact Or.inl rfl | exact Or.inr rfl)) pgs_nil)))) (ok_tup (n := 2) (ok_gcons (i := 6) (ok_gcons (i := 7) ok_gnil)) rfl) (own_tup (own_cons (i := 6) (by decide) (own_cons (i := 7) (by decide) own_nil))) (fun _ _ _ _ _ => ts_nil) (fun _ _ _ _ _ => (e_call C__with_lock hr rfl (sa_cons (se_var (pv 6)) (sa_cons (se_var (pv 7)) (sa_cons (se_var (pv 2)) sa_nil)))))))
  (sx_cons (sx_if (st_tru (e_any rfl rfl z_any (sa_cons (se_comp (own := [("instructions", 6)]) (g := (nmG 6)) rfl nd (si_any (se_var (pv 8))) (blkOk_by (N := N_guarded) (sc := defScope s_guarded) (by decide +kernel)) (fun _ _ _ _ _ => (pg_name (i := 6) nd rfl (by first | exact Or.inl rfl | exact Or.inr rfl))) ok_name (own_name (by decide)) (fun _ _ _ _ _ => ts_nil) (fun _ _ _ _ _ => (e_cmp cm_gt (e_len rfl z_len (sa_cons (se_var (pv 6)) sa_nil)) (e_con k_MOST_INSTRUCTIONS rfl)))) sa_nil))) (sx_one (sx_raise rfl M_NoSuchPlace (L2N.takes_of rfl rfl rfl rfl) hr C_rz rfl (sa_cons se_str sa_nil))) sx_nil)
  (sx_one (sx_lift (ss_ret (se_tup (sa_cons (e_add (se_var (pv 3)) (se_tup (sa_cons (se_tup (sa_cons se_str (sa_cons (se_var (pv 2)) sa_nil))) sa_nil))) (sa_cons (e_tuple rfl z_tuple (sa_cons (se_var (pv 8)) sa_nil)) sa_nil)))))))))))))
theorem d__fits {P : Program} {w : World} {K : PySem.W.Frag} {mg : Str → Option Value} {base : Heap} {k : Nat} {p__can_be_guarded : Fx} (C__can_be_guarded : Cal P w K mg base k "_can_be_guarded" ["instructions", "span"] p__can_be_guarded)     (z_isinstance : mg "isinstance" = none) (z_tuple : mg "tuple" = none) (z_len : mg "len" = none) (f : Addr) (cdv : Value) (A : Around) (outer : List PySem.Env) (s : Shared) (H : Hp) (E : XK) (hr : Room k (A.deeper (PyProof.Rows.envOfC "_fits" (defScope s__fits) s.heap.objs.size f cdv))) :
    PSs (cxOf CX0 P w K mg base N__fits "_fits" (defScope s__fits) f cdv A outer s H E).nox (defBody s__fits) (rdS K w (b__fits p__can_be_guarded)) := by
  have nd := sc__fits.nd
  exact (ss_cons (ss_if (t_cmp cm_isN (se_var (pv 1)) se_non) (ss_one (ss_ret se_bl)) ss_nil)
  (ss_cons (ss_if (PW.pt (sw_or (st_not (st_tru (e_isi kit_tuple rfl z_isinstance rfl z_tuple (by decide +kernel) (se_var (pv 1))))) (sw_or (t_cmp (cm_ne (r64 hr)) (e_len rfl z_len (sa_cons (se_var (pv 1)) sa_nil)) se_int) (sw_or1 (st_not (t_chain3 cm_le cm_le cm_lt se_int (e_ix (se_var (pv 1)) se_int) (e_ix (se_var (pv 1)) se_int) (e_len rfl z_len (sa_cons (se_var (pv 0)) sa_nil)))))))) (ss_one (ss_ret se_bl)) ss_nil)
  (ss_one (ss_ret (e_call C__can_be_guarded hr rfl (sa_cons (se_var (pv 0)) (sa_cons (se_var (pv 1)) sa_nil)))))))
theorem d__with_lock {P : Program} {w : World} {K : PySem.W.Frag} {mg : Str → Option Value} {base : Heap} {k : Nat} {p__led_past : Fx} (C__led_past : Cal P w K mg base k "_led_past" ["instruction", "last"] p__led_past)     (z_tuple : mg "tuple" = none) (f : Addr) (cdv : Value) (A : Around) (outer : List PySem.Env) (s : Shared) (H : Hp) (E : XK) (hr : Room k (A.deeper (PyProof.Rows.envOfC "_with_lock" (defScope s__with_lock) s.heap.objs.size f cdv))) :
    PSs (cxOf CX0 P w K mg base N__with_lock "_with_lock" (defScope s__with_lock) f cdv A outer s H E).nox (defBody s__with_lock) (rdS K w (b__with_lock p__led_past)) := by
  have nd := sc__with_lock.nd
  exact (ss_cons (ss_if (t_cmp cm_isN (se_var (pv 1)) se_non) (ss_one (ss_ret (se_var (pv 0)))) ss_nil)
  (ss_cons (ss_asg (se_var (pv 1)) (pg_tup rfl (pgs_cons (pg_name (i := 3) nd rfl (by first | exact Or.inl rfl | exact Or.inr rfl)) (pgs_cons (pg_name (i := 4) nd rfl (by first | exact Or.inl rfl | exact Or.inr rfl)) pgs_nil))) (ok_tup (n := 2) (ok_gcons (i := 3) (ok_gcons (i := 4) ok_gnil)) rfl))
  (ss_cons (s_setLc (i := 5) (own := [("instruction", 6)]) (g := (nmG 6)) rfl nd (si_any (se_var (pv 0))) (blkOk_by (N := N__with_lock) (sc := defScope s__with_lock) (by decide +kernel)) (fun _ _ _ _ _ => (pg_name (i := 6) nd rfl (by first | exact Or.inl rfl | exact Or.inr rfl))) ok_name (own_name (by decide)) (fun _ _ _ _ _ => ts_nil) (fun _ _ _ _ _ => (e_call C__led_past hr rfl (sa_cons (se_var (pv 6)) (sa_cons (se_var (pv 4)) sa_nil)))))
  (ss_cons (ss_par3 rfl nd rfl rfl rfl (by decide) (by decide) (by decide) rfl rfl rfl (sa_cons (e_slice (se_var (pv 5)) so_none (so_some (se_var (pv 3)))) (sa_cons (e_slice (se_var (pv 5)) (so_some (se_var (pv 3))) (so_some (e_add (se_var (pv 4)) se_int))) (sa_cons (e_slice (se_var (pv 5)) (so_some (e_add (se_var (pv 4)) se_int)) so_none) sa_nil))))
  (ss_one (ss_ret (e_tuple rfl z_tuple (sa_cons (e_add (e_add (e_add (e_add (se_var (pv 7)) (se_lst (sa_cons (se_tup (sa_cons se_str (sa_cons (se_var (pv 2)) sa_nil))) sa_nil))) (se_var (pv 8))) (se_lst (sa_cons (se_tup (sa_cons se_str (sa_cons (se_var (pv 2)) sa_nil))) sa_nil))) (se_var (pv 9))) sa_nil))))))))
theorem d__led_past {P : Program} {w : World} {K : PySem.W.Frag} {mg : Str → Option Value} {base : Heap} {k : Nat}       (f : Addr) (cdv : Value) (A : Around) (outer : List PySem.Env) (s : Shared) (H : Hp) (E : XK) (hr : Room k (A.deeper (PyProof.Rows.envOfC "_led_past" (defScope s__led_past) s.heap.objs.size f cdv))) :
    PSs (cxOf CX0 P w K mg base N__led_past "_led_past" (defScope s__led_past) f cdv A outer s H E).nox (defBody s__led_past) (rdS K w (b__led_past )) := by
  have nd := sc__led_past.nd
  exact (ss_cons (ss_if (PW.pt (sw_or (t_cmp (cm_ne (r64 hr)) (e_ix (se_var (pv 0)) se_int) se_str) (sw_or1 (t_cmp cm_le (e_ix (se_var (pv 0)) se_int) (se_var (pv 1)))))) (ss_one (ss_ret (se_var (pv 0)))) ss_nil)
  (ss_one (ss_ret (se_tup (sa_cons se_str (sa_cons (e_add (e_ix (se_var (pv 0)) se_int) se_int) (sa_cons (e_ix (se_var (pv 0)) se_int) sa_nil)))))))
theorem d__law_cell {P : Program} {w : World} {K : PySem.W.Frag} {mg : Str → Option Value} {base : Heap} {k : Nat}      (z_len : mg "len" = none) (f : Addr) (cdv : Value) (A : Around) (outer : List PySem.Env) (s : Shared) (H : Hp) (E : XK) (hr : Room k (A.deeper (PyProof.Rows.envOfC "_law_cell" (defScope s__law_cell) s.heap.objs.size f cdv))) :
    PSs (cxOf CX0 P w K mg base N__law_cell "_law_cell" (defScope s__law_cell) f cdv A outer s H E).nox (defBody s__law_cell) (rdS K w (b__law_cell )) := by
  have nd := sc__law_cell.nd
  exact (ss_cons (ss_if (t_cmp cm_lt (se_var (pv 1)) (e_len rfl z_len (sa_cons (se_var (pv 0)) sa_nil))) (ss_one (ss_ret (e_ix (se_var (pv 0)) (se_var (pv 1))))) ss_nil)
  (ss_one (ss_ret se_int)))
theorem d__law_digits {P : Program} {w : World} {K : PySem.W.Frag} {mg : Str → Option Value} {base : Heap} {k : Nat}      (z_range : mg "range" = none) (z_len : mg "len" = none) (z_int : mg "int" = none) (f : Addr) (cdv : Value) (A : Around) (outer : List PySem.Env) (s : Shared) (H : Hp) (E : XK) (hr : Room k (A.deeper (PyProof.Rows.envOfC "_law_digits" (defScope s__law_digits) s.heap.objs.size f cdv))) :
    PSs (cxOf CX0 P w K mg base N__law_digits "_law_digits" (defScope s__law_digits) f cdv A outer s H E).nox (defBody s__law_digits) (rdS K w (b__law_digits )) := by
  have nd := sc__law_digits.nd
  exact (ss_cons (ss_set (i := 3) nd rfl (by first | exact Or.inl rfl | exact Or.inr rfl) (se_lst sa_nil))
  (ss_cons (ss_if (t_cmp cm_lt (se_var (pv 0)) se_int) (ss_one (ss_set (i := 0) nd rfl (by first | exact Or.inl rfl | exact Or.inr rfl) (e_sub (e_neg se_int) (se_var (pv 0))))) ss_nil)
  (ss_cons (ss_if (t_cmp cm_ge (se_var (pv 0)) (e_pow se_int se_int)) (ss_one (ss_for PassesOwn.never rfl (si_rng1 rfl z_range (sa_cons se_int sa_nil)) (pg_name (i := 4) nd rfl (by first | exact Or.inl rfl | exact Or.inr rfl)) ok_name (ss_one (ss_if (PW.pt (sw_and (t_cmp cm_gt (se_var (pv 0)) se_int) (sw_and1 (t_cmp cm_lt (e_len rfl z_len (sa_cons (se_var (pv 3)) sa_nil)) (se_var (pv 2)))))) (ss_cons (ss_expr (e_append (se_var (pv 3)) (sa_cons (e_mod (e_int rfl z_int (sa_cons (se_var (pv 0)) sa_nil)) se_int) sa_nil)))
  (ss_one (ss_set (i := 0) nd rfl (by first | exact Or.inl rfl | exact Or.inr rfl) (e_fdiv (se_var (pv 0)) se_int)))) ss_nil)))) (ss_cons (ss_set (i := 5) nd rfl (by first | exact Or.inl rfl | exact Or.inr rfl) (e_mod (e_int rfl z_int (sa_cons (e_add (e_add (e_mul (se_var (pv 0)) se_int) (e_mul (se_var (pv 1)) se_int)) se_int) sa_nil)) se_int))
  (ss_one (ss_for PassesOwn.never rfl (si_rng1 rfl z_range (sa_cons (se_var (pv 2)) sa_nil)) (pg_name (i := 4) nd rfl (by first | exact Or.inl rfl | exact Or.inr rfl)) ok_name (ss_cons (ss_set (i := 5) nd rfl (by first | exact Or.inl rfl | exact Or.inr rfl) (e_mod (e_int rfl z_int (sa_cons (e_add (e_add (e_mul (se_var (pv 5)) se_int) (e_mul se_int (se_var (pv 4)))) se_int) sa_nil)) se_int))
  (ss_one (ss_expr (e_append (se_var (pv 3)) (sa_cons (e_mod (e_int rfl z_int (sa_cons (e_fdiv (se_var (pv 5)) se_int) sa_nil)) se_int) sa_nil)))))))))
  (ss_one (ss_ret (se_var (pv 3)))))))
theorem d__law_padded {P : Program} {w : World} {K : PySem.W.Frag} {mg : Str → Option Value} {base : Heap} {k : Nat} {p__law_digits : Fx} (C__law_digits : Cal P w K mg base k "_law_digits" ["cell", "k", "most"] p__law_digits)     (z_range : mg "range" = none) (f : Addr) (cdv : Value) (A : Around) (outer : List PySem.Env) (s : Shared) (H : Hp) (E : XK) (hr : Room k (A.deeper (PyProof.Rows.envOfC "_law_padded" (defScope s__law_padded) s.heap.objs.size f cdv))) :
    PSs (cxOf CX0 P w K mg base N__law_padded "_law_padded" (defScope s__law_padded) f cdv A outer s H E).nox (defBody s__law_padded) (rdS K w (b__law_padded p__law_digits)) := by
  have nd := sc__law_padded.nd
  exact (ss_cons (ss_set (i := 2) nd rfl (by first | exact Or.inl rfl | exact Or.inr rfl) (e_call C__law_digits hr rfl (sa_cons (se_var (pv 0)) (sa_cons (se_var (pv 1)) (sa_cons se_int sa_nil)))))
  (ss_cons (ss_for PassesOwn.never rfl (si_rng1 rfl z_range (sa_cons se_int sa_nil)) (pg_name (i := 3) nd rfl (by first | exact Or.inl rfl | exact Or.inr rfl)) ok_name (ss_one (ss_expr (e_append (se_var (pv 2)) (sa_cons (se_var (pv 3)) sa_nil)))))
  (ss_one (ss_ret (se_var (pv 2))))))
theorem d__law_things {P : Program} {w : World} {K : PySem.W.Frag} {mg : Str → Option Value} {base : Heap} {k : Nat}       (f : Addr) (cdv : Value) (A : Around) (outer : List PySem.Env) (s : Shared) (H : Hp) (E : XK) (hr : Room k (A.deeper (PyProof.Rows.envOfC "_law_things" (defScope s__law_things) s.heap.objs.size f cdv))) :
    PSs (cxOf CX0 P w K mg base N__law_things "_law_things" (defScope s__law_things) f cdv A outer s H E).nox (defBody s__law_things) (rdS K w (b__law_things )) := by
  have nd := sc__law_things.nd
  exact (ss_one (ss_ret (se_tup (sa_cons (se_tup (sa_cons se_str (sa_cons se_str sa_nil))) (sa_cons (se_tup (sa_cons se_str (sa_cons se_str (sa_cons se_int sa_nil)))) (sa_cons (se_tup (sa_cons se_str (sa_cons se_str (sa_cons se_str sa_nil)))) (sa_cons (se_tup (sa_cons se_str (sa_cons se_str (sa_cons se_int sa_nil)))) (sa_cons (se_tup (sa_cons se_str (sa_cons se_str (sa_cons se_int sa_nil)))) (sa_cons (se_tup (sa_cons se_str (sa_cons se_str sa_nil))) sa_nil)))))))))
theorem d__law_piece {P : Program} {w : World} {K : PySem.W.Frag} {mg : Str → Option Value} {base : Heap} {k : Nat}      (z_int : mg "int" = none) (f : Addr) (cdv : Value) (A : Around) (outer : List PySem.Env) (s : Shared) (H : Hp) (E : XK) (hr : Room k (A.deeper (PyProof.Rows.envOfC "_law_piece" (defScope s__law_piece) s.heap.objs.size f cdv))) :
    PSs (cxOf CX0 P w K mg base N__law_piece "_law_piece" (defScope s__law_piece) f cdv A outer s H E).nox (defBody s__law_piece) (rdS K w (b__law_piece )) := by
  have nd := sc__law_piece.nd
  exact (ss_cons (ss_set (i := 2) nd rfl (by first | exact Or.inl rfl | exact Or.inr rfl) (se_tup (sa_cons se_str (sa_cons se_str (sa_cons (se_tup (sa_cons se_str (sa_cons se_str sa_nil))) (sa_cons (se_tup (sa_cons se_str (sa_cons se_int sa_nil))) sa_nil))))))
  (ss_cons (ss_set (i := 3) nd rfl (by first | exact Or.inl rfl | exact Or.inr rfl) (se_tup (sa_cons se_str (sa_cons se_str (sa_cons (se_tup (sa_cons se_str (sa_cons se_str sa_nil))) (sa_cons (se_tup (sa_cons se_str (sa_cons se_int sa_nil))) sa_nil))))))
  (ss_cons (ss_set (i := 4) nd rfl (by first | exact Or.inl rfl | exact Or.inr rfl) (se_lst (sa_cons (se_lst (sa_cons (se_tup (sa_cons se_str (sa_cons se_str (sa_cons se_str sa_nil)))) (sa_cons (se_tup (sa_cons se_str (sa_cons se_str (sa_cons (se_var (pv 2)) sa_nil)))) sa_nil))) (sa_cons (se_lst (sa_cons (se_tup (sa_cons se_str (sa_cons se_str (sa_cons (se_tup (sa_cons se_str (sa_cons se_int sa_nil))) sa_nil)))) sa_nil)) (sa_cons (se_lst (sa_cons (se_tup (sa_cons se_str (sa_cons se_str (sa_cons (se_tup (sa_cons se_str (sa_cons se_int sa_nil))) sa_nil)))) sa_nil)) (sa_cons (se_lst (sa_cons (se_tup (sa_cons se_str (sa_cons se_str (sa_cons se_str sa_nil)))) sa_nil)) (sa_cons (se_lst (sa_cons (se_tup (sa_cons se_str (sa_cons se_str sa_nil))) (sa_cons (se_tup (sa_cons se_str (sa_cons se_str (sa_cons (se_tup (sa_cons se_str (sa_cons se_int sa_nil))) sa_nil)))) (sa_cons (se_tup (sa_cons se_str (sa_cons se_str sa_nil))) sa_nil)))) (sa_cons (se_lst (sa_cons (se_tup (sa_cons se_str (sa_cons se_str sa_nil))) (sa_cons (se_tup (sa_cons se_str (sa_cons se_str sa_nil))) sa_nil))) (sa_cons (se_lst (sa_cons (se_tup (sa_cons se_str (sa_cons se_str sa_nil))) (sa_cons (se_tup (sa_cons se_str (sa_cons se_str sa_nil))) sa_nil))) (sa_cons (se_lst (sa_cons (se_tup (sa_cons se_str (sa_cons se_str sa_nil))) (sa_cons (se_tup (sa_cons se_str (sa_cons se_str sa_nil))) (sa_cons (se_tup (sa_cons se_str (sa_cons se_str sa_nil))) sa_nil)))) (sa_cons (se_lst (sa_cons (se_tup (sa_cons se_str (sa_cons se_str sa_nil))) sa_nil)) (sa_cons (se_lst (sa_cons (se_tup (sa_cons se_str (sa_cons se_str sa_nil))) (sa_cons (se_tup (sa_cons se_str (sa_cons se_str sa_nil))) (sa_cons (se_tup (sa_cons se_str (sa_cons se_str sa_nil))) sa_nil)))) (sa_cons (se_lst (sa_cons (se_tup (sa_cons se_str (sa_cons se_str (sa_cons (se_tup (sa_cons se_str (sa_cons se_int sa_nil))) sa_nil)))) sa_nil)) (sa_cons (se_lst (sa_cons (se_tup (sa_cons se_str (sa_cons se_str (sa_cons se_str sa_nil)))) sa_nil)) (sa_cons (se_lst (sa_cons (se_tup (sa_cons se_str (sa_cons se_str (sa_cons se_str sa_nil)))) (sa_cons (se_tup (sa_cons se_str (sa_cons (se_var (pv 3)) sa_nil))) sa_nil))) (sa_cons (se_lst (sa_cons (se_tup (sa_cons se_str sa_nil)) (sa_cons (se_tup (sa_cons se_str (sa_cons se_str (sa_cons se_str sa_nil)))) (sa_cons (se_tup (sa_cons se_str (sa_cons se_str (sa_cons (se_var (pv 2)) sa_nil)))) (sa_cons (se_tup (sa_cons se_str sa_nil)) sa_nil))))) (sa_cons (se_lst (sa_cons (se_tup (sa_cons se_str (sa_cons se_str sa_nil))) sa_nil)) (sa_cons (se_lst (sa_cons (se_tup (sa_cons se_str (sa_cons se_str (sa_cons (se_tup (sa_cons se_str (sa_cons se_int sa_nil))) sa_nil)))) sa_nil)) (sa_cons (se_lst (sa_cons (se_tup (sa_cons se_str (sa_cons se_str (sa_cons (se_var (pv 2)) sa_nil)))) sa_nil)) (sa_cons (se_lst (sa_cons (se_tup (sa_cons se_str (sa_cons (e_add (se_var (pv 1)) se_int) (sa_cons (se_tup (sa_cons se_str (sa_cons se_str sa_nil))) sa_nil)))) (sa_cons (se_tup (sa_cons se_str (sa_cons se_str (sa_cons (se_var (pv 2)) sa_nil)))) sa_nil))) (sa_cons (se_lst (sa_cons (se_tup (sa_cons se_str sa_nil)) (sa_cons (se_tup (sa_cons se_str (sa_cons se_str (sa_cons (se_tup (sa_cons se_str (sa_cons se_int sa_nil))) sa_nil)))) (sa_cons (se_tup (sa_cons se_str (sa_cons se_str (sa_cons (se_tup (sa_cons se_str (sa_cons se_int sa_nil))) sa_nil)))) (sa_cons (se_tup (sa_cons se_str sa_nil)) sa_nil))))) (sa_cons (se_lst (sa_cons (se_tup (sa_cons se_str (sa_cons se_str (sa_cons (se_tup (sa_cons se_str (sa_cons se_str sa_nil))) sa_nil)))) sa_nil)) (sa_cons (se_lst (sa_cons (se_tup (sa_cons se_str sa_nil)) sa_nil)) (sa_cons (se_lst (sa_cons (se_tup (sa_cons se_str (sa_cons se_int (sa_cons se_non sa_nil)))) sa_nil)) (sa_cons (se_lst (sa_cons (se_tup (sa_cons se_str (sa_cons se_int (sa_cons (se_tup (sa_cons se_str (sa_cons se_str sa_nil))) sa_nil)))) sa_nil)) (sa_cons (se_lst (sa_cons (se_tup (sa_cons se_str (sa_cons se_int (sa_cons (se_tup (sa_cons se_str (sa_cons se_int sa_nil))) sa_nil)))) (sa_cons (se_tup (sa_cons se_str (sa_cons se_str (sa_cons se_str sa_nil)))) sa_nil))) sa_nil))))))))))))))))))))))))))
  (ss_one (ss_ret (e_ix (se_var (pv 4)) (e_mod (e_int rfl z_int (sa_cons (se_var (pv 0)) sa_nil)) se_int)))))))
theorem d__law_longer {P : Program} {w : World} {K : PySem.W.Frag} {mg : Str → Option Value} {base : Heap} {k : Nat} {p__law_padded : Fx} (C__law_padded : Cal P w K mg base k "_law_padded" ["cell", "k"] p__law_padded) {p__law_cell : Fx} (C__law_cell : Cal P w K mg base k "_law_cell" ["script", "k"] p__law_cell) {p__law_piece : Fx} (C__law_piece : Cal P w K mg base k "_law_piece" ["digit", "pc"] p__law_piece) {p__law_plain : Fx} (C__law_plain : Cal P w K mg base k "_law_plain" ["code"] p__law_plain)     (z_range : mg "range" = none) (z_len : mg "len" = none) (z_int : mg "int" = none) (z_tuple : mg "tuple" = none) (f : Addr) (cdv : Value) (A : Around) (outer : List PySem.Env) (s : Shared) (H : Hp) (E : XK) (hr : Room k (A.deeper (PyProof.Rows.envOfC "_law_longer" (defScope s__law_longer) s.heap.objs.size f cdv))) :
    PSs (cxOf CX0 P w K mg base N__law_longer "_law_longer" (defScope s__law_longer) f cdv A outer s H E).nox (defBody s__law_longer) (rdS K w (b__law_longer p__law_padded p__law_cell p__law_piece p__law_plain)) := by
  have nd := sc__law_longer.nd
  exact (ss_cons (ss_set (i := 1) nd rfl (by first | exact Or.inl rfl | exact Or.inr rfl) (se_lst sa_nil))
  (ss_cons (ss_for PassesOwn.never rfl (si_rng1 rfl z_range (sa_cons se_int sa_nil)) (pg_name (i := 2) nd rfl (by first | exact Or.inl rfl | exact Or.inr rfl)) ok_name (ss_cons (ss_set (i := 3) nd rfl (by first | exact Or.inl rfl | exact Or.inr rfl) (e_call C__law_padded hr rfl (sa_cons (e_call C__law_cell hr rfl (sa_cons (se_var (pv 0)) (sa_cons (se_var (pv 2)) sa_nil))) (sa_cons (se_var (pv 2)) sa_nil))))
  (ss_cons (ss_set (i := 4) nd rfl (by first | exact Or.inl rfl | exact Or.inr rfl) (se_lst sa_nil))
  (ss_cons (ss_for PassesOwn.never rfl (si_rng1 rfl z_range (sa_cons se_int sa_nil)) (pg_name (i := 5) nd rfl (by first | exact Or.inl rfl | exact Or.inr rfl)) ok_name (ss_cons (ss_set (i := 6) nd rfl (by first | exact Or.inl rfl | exact Or.inr rfl) (e_call C__law_piece hr rfl (sa_cons (e_ix (se_var (pv 3)) (se_var (pv 5))) (sa_cons (e_len rfl z_len (sa_cons (se_var (pv 4)) sa_nil)) sa_nil))))
  (ss_one (ss_if (t_cmp cm_le (e_add (e_len rfl z_len (sa_cons (se_var (pv 4)) sa_nil)) (e_len rfl z_len (sa_cons (se_var (pv 6)) sa_nil))) (e_ix (se_lst (sa_cons se_int (sa_cons se_int sa_nil))) (e_mod (e_int rfl z_int (sa_cons (e_call C__law_cell hr rfl (sa_cons (se_var (pv 0)) (sa_cons se_int sa_nil))) sa_nil)) se_int))) (ss_one (ss_set (i := 4) nd rfl (by first | exact Or.inl rfl | exact Or.inr rfl) (e_add (se_var (pv 4)) (se_var (pv 6))))) ss_nil))))
  (ss_one (ss_expr (e_append (se_var (pv 1)) (sa_cons (e_tuple rfl z_tuple (sa_cons (se_var (pv 4)) sa_nil)) sa_nil))))))))
  (ss_cons (ss_set (i := 7) nd rfl (by first | exact Or.inl rfl | exact Or.inr rfl) (se_tup (sa_cons (se_tup (sa_cons se_str (sa_cons se_str (sa_cons se_int sa_nil)))) (sa_cons (se_tup (sa_cons se_str (sa_cons se_str sa_nil))) (sa_cons (se_tup (sa_cons se_str (sa_cons se_str (sa_cons se_int sa_nil)))) (sa_cons (se_tup (sa_cons se_str (sa_cons se_str sa_nil))) sa_nil))))))
  (ss_one (ss_ret (se_tup (sa_cons (se_var (pv 7)) (sa_cons (e_tuple rfl z_tuple (sa_cons (se_comp (own := [("code", 4)]) (g := (nmG 4)) rfl nd (si_any (se_var (pv 1))) (blkOk_by (N := N__law_longer) (sc := defScope s__law_longer) (by decide +kernel)) (fun _ _ _ _ _ => (pg_name (i := 4) nd rfl (by first | exact Or.inl rfl | exact Or.inr rfl))) ok_name (own_name (by decide)) (fun _ _ _ _ _ => ts_nil) (fun _ _ _ _ _ => (e_call C__law_plain hr rfl (sa_cons (se_var (pv 4)) sa_nil)))) sa_nil)) sa_nil))))))))
theorem d__law_plain {P : Program} {w : World} {K : PySem.W.Frag} {mg : Str → Option Value} {base : Heap} {k : Nat}      (z_len : mg "len" = none) (z_tuple : mg "tuple" = none) (f : Addr) (cdv : Value) (A : Around) (outer : List PySem.Env) (s : Shared) (H : Hp) (E : XK) (hr : Room k (A.deeper (PyProof.Rows.envOfC "_law_plain" (defScope s__law_plain) s.heap.objs.size f cdv))) :
    PSs (cxOf CX0 P w K mg base N__law_plain "_law_plain" (defScope s__law_plain) f cdv A outer s H E).nox (defBody s__law_plain) (rdS K w (b__law_plain )) := by
  have nd := sc__law_plain.nd
  exact (ss_cons (ss_set (i := 1) nd rfl (by first | exact Or.inl rfl | exact Or.inr rfl) (se_lst sa_nil))
  (ss_cons (ss_for PassesOwn.never rfl (si_any (se_var (pv 0))) (pg_name (i := 2) nd rfl (by first | exact Or.inl rfl | exact Or.inr rfl)) ok_name (ss_one (ss_if (t_cmp (cm_in (r65 hr)) (e_ix (se_var (pv 2)) se_int) (se_lst (sa_cons se_str (sa_cons se_str (sa_cons se_str (sa_cons se_str (sa_cons se_str sa_nil))))))) (ss_one (ss_expr (e_append (se_var (pv 1)) (sa_cons (se_tup (sa_cons se_str (sa_cons se_str (sa_cons (se_tup (sa_cons se_str (sa_cons se_int sa_nil))) sa_nil)))) sa_nil)))) (ss_one (ss_expr (e_append (se_var (pv 1)) (sa_cons (se_var (pv 2)) sa_nil)))))))
  (ss_cons (ss_if (t_cmp (cm_eq (r64 hr)) (e_len rfl z_len (sa_cons (se_var (pv 1)) sa_nil)) se_int) (ss_one (ss_expr (e_append (se_var (pv 1)) (sa_cons (se_tup (sa_cons se_str (sa_cons se_str (sa_cons se_str sa_nil)))) sa_nil)))) ss_nil)
  (ss_one (ss_ret (e_tuple rfl z_tuple (sa_cons (se_var (pv 1)) sa_nil)))))))
theorem d__law_guardable {P : Program} {w : World} {K : PySem.W.Frag} {mg : Str → Option Value} {base : Heap} {k : Nat}      (z_len : mg "len" = none) (z_range : mg "range" = none) (f : Addr) (cdv : Value) (A : Around) (outer : List PySem.Env) (s : Shared) (H : Hp) (E : XK) (hr : Room k (A.deeper (PyProof.Rows.envOfC "_law_guardable" (defScope s__law_guardable) s.heap.objs.size f cdv))) :
    PSs (cxOf CX0 P w K mg base N__law_guardable "_law_guardable" (defScope s__law_guardable) f cdv A outer s H E).nox (defBody s__law_guardable) (rdS K w (b__law_guardable )) := by
  have nd := sc__law_guardable.nd
  exact (ss_cons (ss_if (st_not (t_chain3 cm_le cm_le cm_lt se_int (se_var (pv 1)) (se_var (pv 2)) (e_len rfl z_len (sa_cons (se_var (pv 0)) sa_nil)))) (ss_one (ss_ret se_bl)) ss_nil)
  (ss_cons (ss_for PassesOwn.never rfl (si_rng2 rfl z_range (sa_cons (se_var (pv 1)) (sa_cons (e_add (se_var (pv 2)) se_int) sa_nil))) (pg_name (i := 3) nd rfl (by first | exact Or.inl rfl | exact Or.inr rfl)) ok_name (ss_one (ss_if (t_cmp (cm_notin (r65 hr)) (e_ix (e_ix (se_var (pv 0)) (se_var (pv 3))) se_int) (se_lst (sa_cons se_str (sa_cons se_str (sa_cons se_str (sa_cons se_str (sa_cons se_str sa_nil))))))) (ss_one (ss_ret se_bl)) ss_nil)))
  (ss_cons (ss_for PassesOwn.never rfl (si_any (se_var (pv 0))) (pg_name (i := 4) nd rfl (by first | exact Or.inl rfl | exact Or.inr rfl)) ok_name (ss_one (ss_if (PW.pt (sw_and (t_cmp (cm_eq (r64 hr)) (e_ix (se_var (pv 4)) se_int) se_str) (sw_and1 (t_chain cm_lt cm_le (se_var (pv 1)) (e_ix (se_var (pv 4)) se_int) (se_var (pv 2)))))) (ss_one (ss_ret se_bl)) ss_nil)))
  (ss_one (ss_ret se_bl)))))
theorem d__law_place {P : Program} {w : World} {K : PySem.W.Frag} {mg : Str → Option Value} {base : Heap} {k : Nat}      (z_int : mg "int" = none) (f : Addr) (cdv : Value) (A : Around) (outer : List PySem.Env) (s : Shared) (H : Hp) (E : XK) (hr : Room k (A.deeper (PyProof.Rows.envOfC "_law_place" (defScope s__law_place) s.heap.objs.size f cdv))) :
    PSs (cxOf CX0 P w K mg base N__law_place "_law_place" (defScope s__law_place) f cdv A outer s H E).nox (defBody s__law_place) (rdS K w (b__law_place )) := by
  have nd := sc__law_place.nd
  exact (ss_one (ss_ret (e_add (e_add (se_var (pv 0)) (e_int rfl z_int (sa_cons (e_cmp cm_gt (se_var (pv 0)) (e_ix (se_var (pv 1)) se_int)) sa_nil))) (e_int rfl z_int (sa_cons (e_cmp cm_gt (se_var (pv 0)) (e_ix (se_var (pv 1)) se_int)) sa_nil)))))
theorem d__law_code {P : Program} {w : World} {K : PySem.W.Frag} {mg : Str → Option Value} {base : Heap} {k : Nat} {p__law_place : Fx} (C__law_place : Cal P w K mg base k "_law_place" ["place", "span"] p__law_place)     (z_range : mg "range" = none) (z_len : mg "len" = none) (z_tuple : mg "tuple" = none) (f : Addr) (cdv : Value) (A : Around) (outer : List PySem.Env) (s : Shared) (H : Hp) (E : XK) (hr : Room k (A.deeper (PyProof.Rows.envOfC "_law_code" (defScope s__law_code) s.heap.objs.size f cdv))) :
    PSs (cxOf CX0 P w K mg base N__law_code "_law_code" (defScope s__law_code) f cdv A outer s H E).nox (defBody s__law_code) (rdS K w (b__law_code p__law_place)) := by
  have nd := sc__law_code.nd
  exact (ss_cons (ss_if (t_cmp cm_isN (se_var (pv 1)) se_non) (ss_one (ss_ret (se_var (pv 0)))) ss_nil)
  (ss_cons (ss_set (i := 3) nd rfl (by first | exact Or.inl rfl | exact Or.inr rfl) (se_lst sa_nil))
  (ss_cons (ss_for PassesOwn.never rfl (si_rng1 rfl z_range (sa_cons (e_len rfl z_len (sa_cons (se_var (pv 0)) sa_nil)) sa_nil)) (pg_name (i := 4) nd rfl (by first | exact Or.inl rfl | exact Or.inr rfl)) ok_name (ss_cons (ss_if (t_cmp (cm_eq (r64 hr)) (se_var (pv 4)) (e_ix (se_var (pv 1)) se_int)) (ss_one (ss_expr (e_append (se_var (pv 3)) (sa_cons (se_tup (sa_cons se_str (sa_cons (se_var (pv 2)) sa_nil))) sa_nil)))) ss_nil)
  (ss_cons (ss_set (i := 5) nd rfl (by first | exact Or.inl rfl | exact Or.inr rfl) (e_ix (se_var (pv 0)) (se_var (pv 4))))
  (ss_cons (ss_if (t_cmp (cm_eq (r64 hr)) (e_ix (se_var (pv 5)) se_int) se_str) (ss_one (ss_set (i := 5) nd rfl (by first | exact Or.inl rfl | exact Or.inr rfl) (se_tup (sa_cons se_str (sa_cons (e_call C__law_place hr rfl (sa_cons (e_ix (se_var (pv 5)) se_int) (sa_cons (se_var (pv 1)) sa_nil))) (sa_cons (e_ix (se_var (pv 5)) se_int) sa_nil)))))) ss_nil)
  (ss_cons (ss_expr (e_append (se_var (pv 3)) (sa_cons (se_var (pv 5)) sa_nil)))
  (ss_one (ss_if (t_cmp (cm_eq (r64 hr)) (se_var (pv 4)) (e_ix (se_var (pv 1)) se_int)) (ss_one (ss_expr (e_append (se_var (pv 3)) (sa_cons (se_tup (sa_cons se_str (sa_cons (se_var (pv 2)) sa_nil))) sa_nil)))) ss_nil)))))))
  (ss_one (ss_ret (e_tuple rfl z_tuple (sa_cons (se_var (pv 3)) sa_nil)))))))
theorem d__law_guards {P : Program} {w : World} {K : PySem.W.Frag} {mg : Str → Option Value} {base : Heap} {k : Nat} {p__law_cell : Fx} (C__law_cell : Cal P w K mg base k "_law_cell" ["script", "k"] p__law_cell)     (z_range : mg "range" = none) (z_len : mg "len" = none) (z_int : mg "int" = none) (z_tuple : mg "tuple" = none) (f : Addr) (cdv : Value) (A : Around) (outer : List PySem.Env) (s : Shared) (H : Hp) (E : XK) (hr : Room k (A.deeper (PyProof.Rows.envOfC "_law_guards" (defScope s__law_guards) s.heap.objs.size f cdv))) :
    PSs (cxOf CX0 P w K mg base N__law_guards "_law_guards" (defScope s__law_guards) f cdv A outer s H E).nox (defBody s__law_guards) (rdS K w (b__law_guards p__law_cell)) := by
  have nd := sc__law_guards.nd
  exact (ss_cons (ss_set (i := 2) nd rfl (by first | exact Or.inl rfl | exact Or.inr rfl) (se_lst sa_nil))
  (ss_cons (ss_for PassesOwn.never rfl (si_rng1 rfl z_range (sa_cons se_int sa_nil)) (pg_name (i := 3) nd rfl (by first | exact Or.inl rfl | exact Or.inr rfl)) ok_name (ss_cons (ss_set (i := 4) nd rfl (by first | exact Or.inl rfl | exact Or.inr rfl) (e_call C__law_cell hr rfl (sa_cons (se_var (pv 0)) (sa_cons (e_add se_int (se_var (pv 3))) sa_nil))))
  (ss_cons (ss_set (i := 5) nd rfl (by first | exact Or.inl rfl | exact Or.inr rfl) (e_len rfl z_len (sa_cons (e_ix (e_ix (se_var (pv 1)) se_int) (se_var (pv 3))) sa_nil)))
  (ss_cons (ss_set (i := 6) nd rfl (by first | exact Or.inl rfl | exact Or.inr rfl) (se_tup (sa_cons (e_mod (e_int rfl z_int (sa_cons (e_fdiv (se_var (pv 4)) se_int) sa_nil)) (se_var (pv 5))) (sa_cons (e_mod (e_int rfl z_int (sa_cons (e_fdiv (se_var (pv 4)) se_int) sa_nil)) (e_add (se_var (pv 5)) se_int)) sa_nil))))
  (ss_one (ss_if (t_cmp (cm_eq (r64 hr)) (e_mod (e_int rfl z_int (sa_cons (se_var (pv 4)) sa_nil)) se_int) se_int) (ss_one (ss_expr (e_append (se_var (pv 2)) (sa_cons se_non sa_nil)))) (ss_one (ss_expr (e_append (se_var (pv 2)) (sa_cons (se_var (pv 6)) sa_nil))))))))))
  (ss_one (ss_ret (e_tuple rfl z_tuple (sa_cons (se_var (pv 2)) sa_nil))))))
theorem d__law_due {P : Program} {w : World} {K : PySem.W.Frag} {mg : Str → Option Value} {base : Heap} {k : Nat} {p__law_guardable : Fx} (C__law_guardable : Cal P w K mg base k "_law_guardable" ["code", "first", "last"] p__law_guardable) {p__law_code : Fx} (C__law_code : Cal P w K mg base k "_law_code" ["code", "span", "name"] p__law_code)     (z_len : mg "len" = none) (z_range : mg "range" = none) (z_tuple : mg "tuple" = none) (f : Addr) (cdv : Value) (A : Around) (outer : List PySem.Env) (s : Shared) (H : Hp) (E : XK) (hr : Room k (A.deeper (PyProof.Rows.envOfC "_law_due" (defScope s__law_due) s.heap.objs.size f cdv))) :
    PSs (cxOf CX0 P w K mg base N__law_due "_law_due" (defScope s__law_due) f cdv A outer s H E).nox (defBody s__law_due) (rdS K w (b__law_due p__law_guardable p__law_code)) := by
  have nd := sc__law_due.nd
  exact (ss_cons (ss_if (t_cmp (cm_in (r65 hr)) (se_var (pv 2)) (se_lst (sa_cons se_str (sa_cons se_str (sa_cons se_str (sa_cons se_str (sa_cons se_str sa_nil))))))) (ss_one (ss_ret (se_tup (sa_cons se_str (sa_cons se_str sa_nil))))) ss_nil)
  (ss_cons (ss_if (t_cmp cm_ge (e_len rfl z_len (sa_cons (e_ix (se_var (pv 0)) se_int) sa_nil)) se_int) (ss_one (ss_ret (se_tup (sa_cons se_str (sa_cons se_str sa_nil))))) ss_nil)
  (ss_cons (ss_if (t_cmp (cm_ne (r64 hr)) (e_len rfl z_len (sa_cons (se_var (pv 1)) sa_nil)) se_int) (ss_one (ss_ret (se_tup (sa_cons se_str (sa_cons se_str sa_nil))))) ss_nil)
  (ss_cons (ss_for PassesOwn.never rfl (si_rng1 rfl z_range (sa_cons se_int sa_nil)) (pg_name (i := 3) nd rfl (by first | exact Or.inl rfl | exact Or.inr rfl)) ok_name (ss_one (ss_if (PW.pt (sw_and (t_cmp cm_notN (e_ix (se_var (pv 1)) (se_var (pv 3))) se_non) (sw_and1 (st_not (st_tru (e_call C__law_guardable hr rfl (sa_cons (e_ix (e_ix (se_var (pv 0)) se_int) (se_var (pv 3))) (sa_cons (e_ix (e_ix (se_var (pv 1)) (se_var (pv 3))) se_int) (sa_cons (e_ix (e_ix (se_var (pv 1)) (se_var (pv 3))) se_int) sa_nil))))))))) (ss_one (ss_ret (se_tup (sa_cons se_str (sa_cons se_str sa_nil))))) ss_nil)))
  (ss_cons (ss_for PassesOwn.never rfl (si_rng1 rfl z_range (sa_cons se_int sa_nil)) (pg_name (i := 3) nd rfl (by first | exact Or.inl rfl | exact Or.inr rfl)) ok_name (ss_one (ss_if (PW.pt (sw_and (t_cmp cm_notN (e_ix (se_var (pv 1)) (se_var (pv 3))) se_non) (sw_and1 (t_cmp cm_gt (e_len rfl z_len (sa_cons (e_ix (e_ix (se_var (pv 0)) se_int) (se_var (pv 3))) sa_nil)) se_int)))) (ss_one (ss_ret (se_tup (sa_cons se_str (sa_cons se_str sa_nil))))) ss_nil)))
  (ss_cons (ss_set (i := 4) nd rfl (by first | exact Or.inl rfl | exact Or.inr rfl) (e_tuple rfl z_tuple (sa_cons (se_comp (own := [("k", 3)]) (g := (nmG 3)) rfl nd (si_rng1 rfl z_range (sa_cons se_int sa_nil)) (blkOk_by (N := N__law_due) (sc := defScope s__law_due) (by decide +kernel)) (fun _ _ _ _ _ => (pg_name (i := 3) nd rfl (by first | exact Or.inl rfl | exact Or.inr rfl))) ok_name (own_name (by decide)) (fun _ _ _ _ _ => ts_nil) (fun _ _ _ _ _ => (e_call C__law_code hr rfl (sa_cons (e_ix (e_ix (se_var (pv 0)) se_int) (se_var (pv 3))) (sa_cons (e_ix (se_var (pv 1)) (se_var (pv 3))) (sa_cons (se_var (pv 2)) sa_nil)))))) sa_nil)))
  (ss_one (ss_ret (se_tup (sa_cons (e_add (e_ix (se_var (pv 0)) se_int) (se_tup (sa_cons (se_tup (sa_cons se_str (sa_cons (se_var (pv 2)) sa_nil))) sa_nil))) (sa_cons (se_var (pv 4)) sa_nil)))))))))))
theorem d__law_told {P : Program} {w : World} {K : PySem.W.Frag} {mg : Str → Option Value} {base : Heap} {k : Nat}  {px_guarded : Fy} (CX_guarded : CalX P w K mg base k "guarded" ["program", "guards", "name"] px_guarded)  (M_NoSuchPlace : MkC P w K mg base "NoSuchPlace")   (f : Addr) (cdv : Value) (A : Around) (outer : List PySem.Env) (s : Shared) (H : Hp) (E : XK) (hr : Room k (A.deeper (PyProof.Rows.envOfC "_law_told" (defScope s__law_told) s.heap.objs.size f cdv))) :
    PSs (cxOf CX0 P w K mg base N__law_told "_law_told" (defScope s__law_told) f cdv A outer s H E).nox (defBody s__law_told) (rdS K w (b__law_told px_guarded)) := by
  have nd := sc__law_told.nd
  exact (ss_one (ss_try M_NoSuchPlace rfl rfl nd rfl rfl rfl (by decide) (fun W pn xe tk hp => (sx_one (sx_ret (ex_call CX_guarded tk hr rfl (sa_cons (se_var (pv 0)) (sa_cons (se_var (pv 1)) (sa_cons (se_var (pv 2)) sa_nil))))))) (fun a oe cls d pn hz hf => (su_ret (f := fun ds => (tupF (consF (cstF (.str "refused")) (consF (fldF 0 ds) nilF)))) (ue_tup (f := fun ds => (consF (cstF (.str "refused")) (consF (fldF 0 ds) nilF))) (ua_cons (f := fun ds => (cstF (.str "refused"))) (g := fun ds => (consF (fldF 0 ds) nilF)) (ue_plain se_str) (ua_cons (f := fun ds => (fldF 0 ds)) (g := fun ds => nilF) (ue_fld M_NoSuchPlace rfl hz.zc hf (pv 3)) (ua_plain sa_nil))))))))
theorem d_law {P : Program} {w : World} {K : PySem.W.Frag} {mg : Str → Option Value} {base : Heap} {k : Nat} {p__law_longer : Fx} (C__law_longer : Cal P w K mg base k "_law_longer" ["script"] p__law_longer) {p__law_cell : Fx} (C__law_cell : Cal P w K mg base k "_law_cell" ["script", "k"] p__law_cell) {p__law_things : Fx} (C__law_things : Cal P w K mg base k "_law_things" [] p__law_things) {p__law_guards : Fx} (C__law_guards : Cal P w K mg base k "_law_guards" ["script", "program"] p__law_guards) {p__law_told : Fx} (C__law_told : Cal P w K mg base k "_law_told" ["program", "guards", "name"] p__law_told) {p__law_due : Fx} (C__law_due : Cal P w K mg base k "_law_due" ["program", "guards", "name"] p__law_due)     (z_int : mg "int" = none) (z_range : mg "range" = none) (f : Addr) (cdv : Value) (A : Around) (outer : List PySem.Env) (s : Shared) (H : Hp) (E : XK) (hr : Room k (A.deeper (PyProof.Rows.envOfC "law" (defScope s_law) s.heap.objs.size f cdv))) :
    PSs (cxOf CX0 P w K mg base N_law "law" (defScope s_law) f cdv A outer s H E).nox (defBody s_law) (rdS K w (b_law p__law_longer p__law_cell p__law_things p__law_guards p__law_told p__law_due)) := by
  have nd := sc_law.nd
  exact (ss_cons (ss_set (i := 1) nd rfl (by first | exact Or.inl rfl | exact Or.inr rfl) (e_call C__law_longer hr rfl (sa_cons (se_var (pv 0)) sa_nil)))
  (ss_cons (ss_if (t_cmp (cm_eq (r64 hr)) (e_mod (e_int rfl z_int (sa_cons (e_call C__law_cell hr rfl (sa_cons (se_var (pv 0)) (sa_cons se_int sa_nil))) sa_nil)) se_int) se_int) (ss_one (ss_set (i := 1) nd rfl (by first | exact Or.inl rfl | exact Or.inr rfl) (se_tup (sa_cons (e_call0 C__law_things hr rfl) (sa_cons (e_ix (se_var (pv 1)) se_int) sa_nil))))) ss_nil)
  (ss_cons (ss_set (i := 2) nd rfl (by first | exact Or.inl rfl | exact Or.inr rfl) (se_lst (sa_cons se_str (sa_cons se_str (sa_cons se_str (sa_cons se_str (sa_cons se_str (sa_cons se_str (sa_cons se_str sa_nil)))))))))
  (ss_cons (ss_set (i := 3) nd rfl (by first | exact Or.inl rfl | exact Or.inr rfl) (e_call C__law_guards hr rfl (sa_cons (se_var (pv 0)) (sa_cons (se_var (pv 1)) sa_nil))))
  (ss_cons (ss_if (t_cmp (cm_eq (r64 hr)) (e_mod (e_int rfl z_int (sa_cons (e_call C__law_cell hr rfl (sa_cons (se_var (pv 0)) (sa_cons se_int sa_nil))) sa_nil)) se_int) se_int) (ss_one (ss_set (i := 3) nd rfl (by first | exact Or.inl rfl | exact Or.inr rfl) (e_slice (se_var (pv 3)) so_none (so_some se_int)))) ss_nil)
  (ss_cons (ss_for PassesOwn.never rfl (si_rng2 rfl z_range (sa_cons se_int (sa_cons se_int sa_nil))) (pg_name (i := 4) nd rfl (by first | exact Or.inl rfl | exact Or.inr rfl)) ok_name (ss_cons (ss_set (i := 5) nd rfl (by first | exact Or.inl rfl | exact Or.inr rfl) (e_ix (se_var (pv 2)) (e_mod (e_int rfl z_int (sa_cons (e_call C__law_cell hr rfl (sa_cons (se_var (pv 0)) (sa_cons (se_var (pv 4)) sa_nil))) sa_nil)) se_int)))
  (ss_one (ss_if (t_cmp (cm_ne (r64 hr)) (e_call C__law_told hr rfl (sa_cons (se_var (pv 1)) (sa_cons (se_var (pv 3)) (sa_cons (se_var (pv 5)) sa_nil)))) (e_call C__law_due hr rfl (sa_cons (se_var (pv 1)) (sa_cons (se_var (pv 3)) (sa_cons (se_var (pv 5)) sa_nil))))) (ss_one (ss_ret se_bl)) ss_nil))))
  (ss_one (ss_ret se_bl))))))))
inductive Nm where
  | n_tokens | n__token_at | n__run_at | n__is_number | n_is_name | n__can_be_guarded | n__fits | n__with_lock | n__led_past | n__law_cell | n__law_digits | n__law_padded | n__law_things | n__law_piece | n__law_longer | n__law_plain | n__law_guardable | n__law_place | n__law_code | n__law_guards | n__law_due | n__law_told
inductive Ny where
  | y_guarded
def rz (n : Nat) : Bool := decide (2 ≤ n)
def TT : Nat → (Nm → Fx) × (Ny → Fy)
  | 0 => (fun _ _ _ => none, fun _ _ _ => none)
  | n + 1 => (fun x => match x with
    | .n_tokens => f_tokens ((TT n).1 .n__token_at)
    | .n__token_at => f__token_at ((TT n).1 .n__run_at) ((TT n).1 .n__is_number)
    | .n__run_at => f__run_at 
    | .n__is_number => f__is_number 
    | .n_is_name => f_is_name ((TT n).1 .n_tokens)
    | .n__can_be_guarded => f__can_be_guarded 
    | .n__fits => f__fits ((TT n).1 .n__can_be_guarded)
    | .n__with_lock => f__with_lock ((TT n).1 .n__led_past)
    | .n__led_past => f__led_past 
    | .n__law_cell => f__law_cell 
    | .n__law_digits => f__law_digits 
    | .n__law_padded => f__law_padded ((TT n).1 .n__law_digits)
    | .n__law_things => f__law_things 
    | .n__law_piece => f__law_piece 
    | .n__law_longer => f__law_longer ((TT n).1 .n__law_padded) ((TT n).1 .n__law_cell) ((TT n).1 .n__law_piece) ((TT n).1 .n__law_plain)
    | .n__law_plain => f__law_plain 
    | .n__law_guardable => f__law_guardable 
    | .n__law_place => f__law_place 
    | .n__law_code => f__law_code ((TT n).1 .n__law_place)
    | .n__law_guards => f__law_guards ((TT n).1 .n__law_cell)
    | .n__law_due => f__law_due ((TT n).1 .n__law_guardable) ((TT n).1 .n__law_code)
    | .n__law_told => f__law_told ((TT n).2 .y_guarded),
   fun y => match y with
    | .y_guarded => fx_guarded ((TT n).1 .n_is_name) ((TT n).1 .n__fits) ((TT n).1 .n__with_lock) (rz n))
abbrev T (n : Nat) : Nm → Fx := (TT n).1
abbrev Y (n : Nat) : Ny → Fy := (TT n).2
structure Tops (w : World) (K : PySem.W.Frag) (mg : Str → Option Value) : Prop where
  o_tokens : Def K mg "tokens" s_tokens ["line"]
  o__token_at : Def K mg "_token_at" s__token_at ["line", "at"]
  o__run_at : Def K mg "_run_at" s__run_at ["line", "at", "characters"]
  o__is_number : Def K mg "_is_number" s__is_number ["digits"]
  o_is_name : Def K mg "is_name" s_is_name ["text"]
  o__can_be_guarded : Def K mg "_can_be_guarded" s__can_be_guarded ["instructions", "span"]
  o__fits : Def K mg "_fits" s__fits ["instructions", "span"]
  o__with_lock : Def K mg "_with_lock" s__with_lock ["instructions", "span", "name"]
  o__led_past : Def K mg "_led_past" s__led_past ["instruction", "last"]
  o__law_cell : Def K mg "_law_cell" s__law_cell ["script", "k"]
  o__law_digits : Def K mg "_law_digits" s__law_digits ["cell", "k", "most"]
  o__law_padded : Def K mg "_law_padded" s__law_padded ["cell", "k"]
  o__law_things : Def K mg "_law_things" s__law_things []
  o__law_piece : Def K mg "_law_piece" s__law_piece ["digit", "pc"]
  o__law_longer : Def K mg "_law_longer" s__law_longer ["script"]
  o__law_plain : Def K mg "_law_plain" s__law_plain ["code"]
  o__law_guardable : Def K mg "_law_guardable" s__law_guardable ["code", "first", "last"]
  o__law_place : Def K mg "_law_place" s__law_place ["place", "span"]
  o__law_code : Def K mg "_law_code" s__law_code ["code", "span", "name"]
  o__law_guards : Def K mg "_law_guards" s__law_guards ["script", "program"]
  o__law_due : Def K mg "_law_due" s__law_due ["program", "guards", "name"]
  o__law_told : Def K mg "_law_told" s__law_told ["program", "guards", "name"]
  o_guarded : Def K mg "guarded" s_guarded ["program", "guards", "name"]
  er_NoSuchPlace : ErT K mg "NoSuchPlace" "NoSuchPlace.__init__" s_init_NoSuchPlace
  tur : TurT K mg
  k_DIGITS : Con K mg "DIGITS" c_DIGITS
  k_LETTERS : Con K mg "LETTERS" c_LETTERS
  k_LONGEST_WORD : Con K mg "LONGEST_WORD" c_LONGEST_WORD
  k_SIGNS : Con K mg "SIGNS" c_SIGNS
  k_REGISTERS : Con K mg "REGISTERS" c_REGISTERS
  k_RESERVED : Con K mg "RESERVED" c_RESERVED
  k_INNER : Con K mg "INNER" c_INNER
  k_MOST_THINGS : Con K mg "MOST_THINGS" c_MOST_THINGS
  k_MOST_INSTRUCTIONS : Con K mg "MOST_INSTRUCTIONS" c_MOST_INSTRUCTIONS
  z_len : mg "len" = none
  z_all : mg "all" = none
  z_any : mg "any" = none
  z_zip : mg "zip" = none
  z_tuple : mg "tuple" = none
  z_isinstance : mg "isinstance" = none
  z_range : mg "range" = none
  z_int : mg "int" = none
theorem mk_NoSuchPlace {P : Program} {w : World} {K : PySem.W.Frag} {mg : Str → Option Value} {base : Heap} (t : Tops w K mg) : MkC P w K mg base "NoSuchPlace" := by
  obtain ⟨C, fI, fd, E1, F, hb⟩ := t.er_NoSuchPlace
  obtain ⟨Ta, Tu⟩ := t.tur
  refine ⟨⟨C, fI, fd, E1, F.ok sc_init_NoSuchPlace (fun vs H Q E h => ?_) (fun cdv A outer s H vs Q E hr h => ⟨_, pss_cons (ps_expr (pe_teinit Tu rfl (pa_cons (pv 0) (pa_cons (pe_joined (.cons pe_str (.cons (pe_fmt (pv 1)) .nil))) pa_nil)))) (pss_one (ps_ost (pv 0) (pv 1))), init1 (X := cxOf CX0 P w K mg base ("self" :: flds "NoSuchPlace") "NoSuchPlace.__init__" (defScope s_init_NoSuchPlace) fI cdv A outer s H E) E1.o (E1.no _ (by decide)) (by decide) h⟩), hb⟩, fun H μ ds vs r hl => xf1 (f := "word") rfl r hl⟩
  obtain ⟨a, ws, rfl, hl, _⟩ := h
  exact congrArg Nat.succ hl
structure All (P : Program) (w : World) (K : PySem.W.Frag) (mg : Str → Option Value) (base : Heap) (n : Nat) : Prop where
  a_tokens : Cal P w K mg base n "tokens" ["line"] (T n .n_tokens)
  a__token_at : Cal P w K mg base n "_token_at" ["line", "at"] (T n .n__token_at)
  a__run_at : Cal P w K mg base n "_run_at" ["line", "at", "characters"] (T n .n__run_at)
  a__is_number : Cal P w K mg base n "_is_number" ["digits"] (T n .n__is_number)
  a_is_name : Cal P w K mg base n "is_name" ["text"] (T n .n_is_name)
  a__can_be_guarded : Cal P w K mg base n "_can_be_guarded" ["instructions", "span"] (T n .n__can_be_guarded)
  a__fits : Cal P w K mg base n "_fits" ["instructions", "span"] (T n .n__fits)
  a__with_lock : Cal P w K mg base n "_with_lock" ["instructions", "span", "name"] (T n .n__with_lock)
  a__led_past : Cal P w K mg base n "_led_past" ["instruction", "last"] (T n .n__led_past)
  a__law_cell : Cal P w K mg base n "_law_cell" ["script", "k"] (T n .n__law_cell)
  a__law_digits : Cal P w K mg base n "_law_digits" ["cell", "k", "most"] (T n .n__law_digits)
  a__law_padded : Cal P w K mg base n "_law_padded" ["cell", "k"] (T n .n__law_padded)
  a__law_things : Cal P w K mg base n "_law_things" [] (T n .n__law_things)
  a__law_piece : Cal P w K mg base n "_law_piece" ["digit", "pc"] (T n .n__law_piece)
  a__law_longer : Cal P w K mg base n "_law_longer" ["script"] (T n .n__law_longer)
  a__law_plain : Cal P w K mg base n "_law_plain" ["code"] (T n .n__law_plain)
  a__law_guardable : Cal P w K mg base n "_law_guardable" ["code", "first", "last"] (T n .n__law_guardable)
  a__law_place : Cal P w K mg base n "_law_place" ["place", "span"] (T n .n__law_place)
  a__law_code : Cal P w K mg base n "_law_code" ["code", "span", "name"] (T n .n__law_code)
  a__law_guards : Cal P w K mg base n "_law_guards" ["script", "program"] (T n .n__law_guards)
  a__law_due : Cal P w K mg base n "_law_due" ["program", "guards", "name"] (T n .n__law_due)
  a__law_told : Cal P w K mg base n "_law_told" ["program", "guards", "name"] (T n .n__law_told)
  ax_guarded : CalX P w K mg base n "guarded" ["program", "guards", "name"] (Y n .y_guarded)
theorem all_ok {P : Program} {w : World} {K : PySem.W.Frag} {mg : Str → Option Value} {base : Heap} (t : Tops w K mg) : ∀ n, All P w K mg base n
  | 0 => ⟨cal_zero t.o_tokens, cal_zero t.o__token_at, cal_zero t.o__run_at, cal_zero t.o__is_number, cal_zero t.o_is_name, cal_zero t.o__can_be_guarded, cal_zero t.o__fits, cal_zero t.o__with_lock, cal_zero t.o__led_past, cal_zero t.o__law_cell, cal_zero t.o__law_digits, cal_zero t.o__law_padded, cal_zero t.o__law_things, cal_zero t.o__law_piece, cal_zero t.o__law_longer, cal_zero t.o__law_plain, cal_zero t.o__law_guardable, cal_zero t.o__law_place, cal_zero t.o__law_code, cal_zero t.o__law_guards, cal_zero t.o__law_due, cal_zero t.o__law_told, calX_zero t.o_guarded⟩
  | n + 1 => by
    have a : All P w K mg base n := all_ok t n
    exact ⟨cal_ok (N := N_tokens) t.o_tokens sc_tokens (by decide) (d_tokens a.a__token_at t.z_len),
      cal_ok (N := N__token_at) t.o__token_at sc__token_at (by decide) (d__token_at a.a__run_at a.a__is_number t.k_DIGITS t.k_LETTERS t.k_LONGEST_WORD t.k_SIGNS t.z_len),
      cal_ok (N := N__run_at) t.o__run_at sc__run_at (by decide) (d__run_at t.z_len),
      cal_ok (N := N__is_number) t.o__is_number sc__is_number (by decide) (d__is_number t.z_len),
      cal_ok (N := N_is_name) t.o_is_name sc_is_name (by decide) (d_is_name a.a_tokens t.k_REGISTERS t.k_RESERVED),
      cal_ok (N := N__can_be_guarded) t.o__can_be_guarded sc__can_be_guarded (by decide) (d__can_be_guarded t.k_INNER t.z_all t.z_any),
      cal_ok (N := N__fits) t.o__fits sc__fits (by decide) (d__fits a.a__can_be_guarded t.z_isinstance t.z_tuple t.z_len),
      cal_ok (N := N__with_lock) t.o__with_lock sc__with_lock (by decide) (d__with_lock a.a__led_past t.z_tuple),
      cal_ok (N := N__led_past) t.o__led_past sc__led_past (by decide) (d__led_past ),
      cal_ok (N := N__law_cell) t.o__law_cell sc__law_cell (by decide) (d__law_cell t.z_len),
      cal_ok (N := N__law_digits) t.o__law_digits sc__law_digits (by decide) (d__law_digits t.z_range t.z_len t.z_int),
      cal_ok (N := N__law_padded) t.o__law_padded sc__law_padded (by decide) (d__law_padded a.a__law_digits t.z_range),
      cal_ok (N := N__law_things) t.o__law_things sc__law_things (by decide) (d__law_things ),
      cal_ok (N := N__law_piece) t.o__law_piece sc__law_piece (by decide) (d__law_piece t.z_int),
      cal_ok (N := N__law_longer) t.o__law_longer sc__law_longer (by decide) (d__law_longer a.a__law_padded a.a__law_cell a.a__law_piece a.a__law_plain t.z_range t.z_len t.z_int t.z_tuple),
      cal_ok (N := N__law_plain) t.o__law_plain sc__law_plain (by decide) (d__law_plain t.z_len t.z_tuple),
      cal_ok (N := N__law_guardable) t.o__law_guardable sc__law_guardable (by decide) (d__law_guardable t.z_len t.z_range),
      cal_ok (N := N__law_place) t.o__law_place sc__law_place (by decide) (d__law_place t.z_int),
      cal_ok (N := N__law_code) t.o__law_code sc__law_code (by decide) (d__law_code a.a__law_place t.z_range t.z_len t.z_tuple),
      cal_ok (N := N__law_guards) t.o__law_guards sc__law_guards (by decide) (d__law_guards a.a__law_cell t.z_range t.z_len t.z_int t.z_tuple),
      cal_ok (N := N__law_due) t.o__law_due sc__law_due (by decide) (d__law_due a.a__law_guardable a.a__law_code t.z_len t.z_range t.z_tuple),
      cal_ok (N := N__law_told) t.o__law_told sc__law_told (by decide) (d__law_told a.ax_guarded (mk_NoSuchPlace t)),
      calX_ok (N := N_guarded) t.o_guarded sc_guarded (by decide) (dx_guarded a.a_is_name a.a__fits a.a__with_lock (mk_NoSuchPlace t) of_decide_eq_true t.k_MOST_THINGS t.k_MOST_INSTRUCTIONS t.z_len t.z_all t.z_zip t.z_any t.z_tuple)⟩
abbrev FUEL : Nat := 30
theorem fin_ok {P : Program} {w : World} {h : Heap} {K : PySem.W.Frag} {mg : Str → Option Value} (X : K.In h) (G : h.Ns mainGlobals mg) (t : Tops w K mg) (ld : LawDef K mg s_law) : LawDef K mg s_law ∧ ∀ (base : Heap) (f : Addr) (cdv : Value) (A : Around) (outer : List PySem.Env) (s : Shared) (H : Hp) (E : XK), Room FUEL (A.deeper (PyProof.Rows.envOfC "law" (defScope s_law) s.heap.objs.size f cdv)) →
      PSs (cxOf CX0 P w K mg base N_law "law" (defScope s_law) f cdv A outer s H E).nox (defBody s_law) (rdS K w (b_law (T FUEL .n__law_longer) (T FUEL .n__law_cell) (T FUEL .n__law_things) (T FUEL .n__law_guards) (T FUEL .n__law_told) (T FUEL .n__law_due))) :=
  ⟨ld, fun base f cdv A outer s H E hr => d_law (all_ok t FUEL).a__law_longer (all_ok t FUEL).a__law_cell (all_ok t FUEL).a__law_things (all_ok t FUEL).a__law_guards (all_ok t FUEL).a__law_told (all_ok t FUEL).a__law_due t.z_int t.z_range f cdv A outer s H E hr⟩
theorem law_true : ∀ ns : List Int, ns.length ≤ 63 → ∃ st', runF N_law.length 1 (b_law (T FUEL .n__law_longer) (T FUEL .n__law_cell) (T FUEL .n__law_things) (T FUEL .n__law_guards) (T FUEL .n__law_told) (T FUEL .n__law_due)) [.loc 0] [.frz (ns.map .int)] = some (.bl true, st') :=
  k53_law (fun st n ns h k => cell_ok h k) (fun s => rfl)
    (fun st n ns h => longer53_ok (pad := T 29 .n__law_padded) (cell := T 29 .n__law_cell) (piece := T 29 .n__law_piece) (fun st n ns h k => cell_ok h k) (padded_ok (fun c k m hm st => digits_ok c k m hm st)) piece_ok h)
    (fun S c0 c1 h0 h1 st n ns h => guards_ok (cell := T 29 .n__law_cell) (fun st n ns h k => cell_ok h k) h0 h1 h)
    (fun S c0 c1 gs x h0 h1 hS hl hx hb s => told_ok h0 h1 hS (fun s st k => is_name_ok (pt := T 27 .n_tokens) (fun x st hl => tokens_ok (pt := T 26 .n__token_at) (fun x a c r hl hd st => token_at_ok (pr := f__run_at) (pn := f__is_number) (fun x y a st hl ha => run_at_ok x y a st hl ha) (fun l hne hl st => is_number_ok l hne hl st) x a c r hl hd st) x hl st) x hl hx st) hb s)
    (fun S c0 c1 gs x h0 h1 hS s => law_due_ok h0 h1 hS s)
end Lw
open PySem PySem.W PyProof.Rows in
set_option maxRecDepth 100000 in
set_option maxHeartbeats 0 in
theorem PySem.Challenge.cw_everyturn_k53_guarded_programs_holds : PySem.Challenge.rw_everyturn_k53_guarded_programs.Holds := by
  w_on; o_law; k_head; (case hw => w_witness2)
  k_fill
  refine Iv.walk (l := PySem.Challenge.rw_everyturn_k53_guarded_programs) (k := Lw.FUEL) (N := Lw.N_law) (st := Lw.s_law) (body := Lw.b_law (Lw.T Lw.FUEL .n__law_longer) (Lw.T Lw.FUEL .n__law_cell) (Lw.T Lw.FUEL .n__law_things) (Lw.T Lw.FUEL .n__law_guards) (Lw.T Lw.FUEL .n__law_told) (Lw.T Lw.FUEL .n__law_due)) rfl rfl rfl ⟨rfl, by decide, by decide⟩ Lw.sc_law (by decide) (fun w h Y => PySem.W.kIn_of Y) Lw.law_true ?B
  case B =>
    intro w mg h KX G
    refine' Lw.fin_ok KX G ⟨?o_tokens, ?o__token_at, ?o__run_at, ?o__is_number, ?o_is_name, ?o__can_be_guarded, ?o__fits, ?o__with_lock, ?o__led_past, ?o__law_cell, ?o__law_digits, ?o__law_padded, ?o__law_things, ?o__law_piece, ?o__law_longer, ?o__law_plain, ?o__law_guardable, ?o__law_place, ?o__law_code, ?o__law_guards, ?o__law_due, ?o__law_told, ?o_guarded, ?er_NoSuchPlace, ?tur, ?k_DIGITS, ?k_LETTERS, ?k_LONGEST_WORD, ?k_SIGNS, ?k_REGISTERS, ?k_RESERVED, ?k_INNER, ?k_MOST_THINGS, ?k_MOST_INSTRUCTIONS, ?z_len, ?z_all, ?z_any, ?z_zip, ?z_tuple, ?z_isinstance, ?z_range, ?z_int⟩ ?ld
    case o_tokens =>
      refine' Iv.def_mk KX G ?a ?l ?c ?k (fun _ _ _ _ _ _ us hl => match us, hl with | [_], _ => rfl)
      (case a => k_is)
      (case l => k_is)
      (case c => k_is)
      (case k => k_is)
    case o__token_at =>
      refine' Iv.def_mk KX G ?a ?l ?c ?k (fun _ _ _ _ _ _ us hl => match us, hl with | [_, _], _ => rfl)
      (case a => k_is)
      (case l => k_is)
      (case c => k_is)
      (case k => k_is)
    case o__run_at =>
      refine' Iv.def_mk KX G ?a ?l ?c ?k (fun _ _ _ _ _ _ us hl => match us, hl with | [_, _, _], _ => rfl)
      (case a => k_is)
      (case l => k_is)
      (case c => k_is)
      (case k => k_is)
    case o__is_number =>
      refine' Iv.def_mk KX G ?a ?l ?c ?k (fun _ _ _ _ _ _ us hl => match us, hl with | [_], _ => rfl)
      (case a => k_is)
      (case l => k_is)
      (case c => k_is)
      (case k => k_is)
    case o_is_name =>
      refine' Iv.def_mk KX G ?a ?l ?c ?k (fun _ _ _ _ _ _ us hl => match us, hl with | [_], _ => rfl)
      (case a => k_is)
      (case l => k_is)
      (case c => k_is)
      (case k => k_is)
    case o__can_be_guarded =>
      refine' Iv.def_mk KX G ?a ?l ?c ?k (fun _ _ _ _ _ _ us hl => match us, hl with | [_, _], _ => rfl)
      (case a => k_is)
      (case l => k_is)
      (case c => k_is)
      (case k => k_is)
    case o__fits =>
      refine' Iv.def_mk KX G ?a ?l ?c ?k (fun _ _ _ _ _ _ us hl => match us, hl with | [_, _], _ => rfl)
      (case a => k_is)
      (case l => k_is)
      (case c => k_is)
      (case k => k_is)
    case o__with_lock =>
      refine' Iv.def_mk KX G ?a ?l ?c ?k (fun _ _ _ _ _ _ us hl => match us, hl with | [_, _, _], _ => rfl)
      (case a => k_is)
      (case l => k_is)
      (case c => k_is)
      (case k => k_is)
    case o__led_past =>
      refine' Iv.def_mk KX G ?a ?l ?c ?k (fun _ _ _ _ _ _ us hl => match us, hl with | [_, _], _ => rfl)
      (case a => k_is)
      (case l => k_is)
      (case c => k_is)
      (case k => k_is)
    case o__law_cell =>
      refine' Iv.def_mk KX G ?a ?l ?c ?k (fun _ _ _ _ _ _ us hl => match us, hl with | [_, _], _ => rfl)
      (case a => k_is)
      (case l => k_is)
      (case c => k_is)
      (case k => k_is)
    case o__law_digits =>
      refine' Iv.def_mk KX G ?a ?l ?c ?k (fun _ _ _ _ _ _ us hl => match us, hl with | [_, _, _], _ => rfl)
      (case a => k_is)
      (case l => k_is)
      (case c => k_is)
      (case k => k_is)
    case o__law_padded =>
      refine' Iv.def_mk KX G ?a ?l ?c ?k (fun _ _ _ _ _ _ us hl => match us, hl with | [_, _], _ => rfl)
      (case a => k_is)
      (case l => k_is)
      (case c => k_is)
      (case k => k_is)
    case o__law_things =>
      refine' Iv.def_mk KX G ?a ?l ?c ?k (fun _ _ _ _ _ _ us hl => match us, hl with | [], _ => rfl)
      (case a => k_is)
      (case l => k_is)
      (case c => k_is)
      (case k => k_is)
    case o__law_piece =>
      refine' Iv.def_mk KX G ?a ?l ?c ?k (fun _ _ _ _ _ _ us hl => match us, hl with | [_, _], _ => rfl)
      (case a => k_is)
      (case l => k_is)
      (case c => k_is)
      (case k => k_is)
    case o__law_longer =>
      refine' Iv.def_mk KX G ?a ?l ?c ?k (fun _ _ _ _ _ _ us hl => match us, hl with | [_], _ => rfl)
      (case a => k_is)
      (case l => k_is)
      (case c => k_is)
      (case k => k_is)
    case o__law_plain =>
      refine' Iv.def_mk KX G ?a ?l ?c ?k (fun _ _ _ _ _ _ us hl => match us, hl with | [_], _ => rfl)
      (case a => k_is)
      (case l => k_is)
      (case c => k_is)
      (case k => k_is)
    case o__law_guardable =>
      refine' Iv.def_mk KX G ?a ?l ?c ?k (fun _ _ _ _ _ _ us hl => match us, hl with | [_, _, _], _ => rfl)
      (case a => k_is)
      (case l => k_is)
      (case c => k_is)
      (case k => k_is)
    case o__law_place =>
      refine' Iv.def_mk KX G ?a ?l ?c ?k (fun _ _ _ _ _ _ us hl => match us, hl with | [_, _], _ => rfl)
      (case a => k_is)
      (case l => k_is)
      (case c => k_is)
      (case k => k_is)
    case o__law_code =>
      refine' Iv.def_mk KX G ?a ?l ?c ?k (fun _ _ _ _ _ _ us hl => match us, hl with | [_, _, _], _ => rfl)
      (case a => k_is)
      (case l => k_is)
      (case c => k_is)
      (case k => k_is)
    case o__law_guards =>
      refine' Iv.def_mk KX G ?a ?l ?c ?k (fun _ _ _ _ _ _ us hl => match us, hl with | [_, _], _ => rfl)
      (case a => k_is)
      (case l => k_is)
      (case c => k_is)
      (case k => k_is)
    case o__law_due =>
      refine' Iv.def_mk KX G ?a ?l ?c ?k (fun _ _ _ _ _ _ us hl => match us, hl with | [_, _, _], _ => rfl)
      (case a => k_is)
      (case l => k_is)
      (case c => k_is)
      (case k => k_is)
    case o__law_told =>
      refine' Iv.def_mk KX G ?a ?l ?c ?k (fun _ _ _ _ _ _ us hl => match us, hl with | [_, _, _], _ => rfl)
      (case a => k_is)
      (case l => k_is)
      (case c => k_is)
      (case k => k_is)
    case o_guarded =>
      refine' Iv.def_mk KX G ?a ?l ?c ?k (fun _ _ _ _ _ _ us hl => match us, hl with | [_, _, _], _ => rfl)
      (case a => k_is)
      (case l => k_is)
      (case c => k_is)
      (case k => k_is)
    case er_NoSuchPlace =>
      refine' Iv.er_mk KX G ?aC ?xL ?hbm ?sa ?ga ?gg ?no ?a1 ?t1 ?l1 ?c1 ?k1 ?kC ?eC ?tC ?hC ?iC ?sC (fun _ _ _ _ _ _ us hl => match us, hl with | [_, _], _ => rfl)
      (case aC => k_is)
      (case xL => k_is)
      (case hbm => decide +kernel)
      (case sa => k_is)
      (case ga => k_is)
      (case gg => k_is)
      (case no =>
        intro f hf
        rw [show Iv.flds "NoSuchPlace" = (["word"] : List Str) from rfl] at hf
        rcases List.mem_singleton.mp hf with rfl; k_is)
      (case a1 => k_is)
      (case t1 => k_is)
      (case l1 => k_is)
      (case c1 => k_is)
      (case k1 => k_is)
      (case kC => k_is)
      (case eC => k_is)
      (case tC => k_is)
      (case hC => k_is)
      (case iC => k_is)
      (case sC => k_is)
    case tur =>
      refine' Iv.tur_mk KX G ?a ?rd ?ga ?at_
      (case a => k_is)
      (case rd => k_is)
      (case ga => k_is)
      (case at_ => k_is)
    case k_DIGITS =>
      refine' Iv.con_mk KX G ?a ?c
      (case a => k_is)
      (case c => (exact Iv.CV.str))
    case k_LETTERS =>
      refine' Iv.con_mk KX G ?a ?c
      (case a => k_is)
      (case c => (exact Iv.CV.str))
    case k_LONGEST_WORD =>
      refine' Iv.con_mk KX G ?a ?c
      (case a => k_is)
      (case c => (exact Iv.CV.int))
    case k_SIGNS =>
      refine' Iv.con_mk KX G ?a ?c
      (case a => k_is)
      (case c => (exact Iv.CV.str))
    case k_REGISTERS =>
      refine' Iv.con_mk KX G ?a ?c
      (case a => k_is)
      (case c => (refine' Iv.CV.tup ?l1 ?z1 ?h1; (case l1 => k_is); (case z1 => decide); (case h1 => (refine Iv.CVs.cons ?_ ?_; exact Iv.CV.str; refine Iv.CVs.cons ?_ ?_; exact Iv.CV.str; refine Iv.CVs.cons ?_ ?_; exact Iv.CV.str; refine Iv.CVs.cons ?_ ?_; exact Iv.CV.str; exact Iv.CVs.nil))))
    case k_RESERVED =>
      refine' Iv.con_mk KX G ?a ?c
      (case a => k_is)
      (case c => (refine' Iv.CV.tup ?l2 ?z2 ?h2; (case l2 => k_is); (case z2 => decide); (case h2 => (refine Iv.CVs.cons ?_ ?_; exact Iv.CV.str; refine Iv.CVs.cons ?_ ?_; exact Iv.CV.str; refine Iv.CVs.cons ?_ ?_; exact Iv.CV.str; refine Iv.CVs.cons ?_ ?_; exact Iv.CV.str; refine Iv.CVs.cons ?_ ?_; exact Iv.CV.str; refine Iv.CVs.cons ?_ ?_; exact Iv.CV.str; refine Iv.CVs.cons ?_ ?_; exact Iv.CV.str; refine Iv.CVs.cons ?_ ?_; exact Iv.CV.str; refine Iv.CVs.cons ?_ ?_; exact Iv.CV.str; refine Iv.CVs.cons ?_ ?_; exact Iv.CV.str; refine Iv.CVs.cons ?_ ?_; exact Iv.CV.str; refine Iv.CVs.cons ?_ ?_; exact Iv.CV.str; refine Iv.CVs.cons ?_ ?_; exact Iv.CV.str; refine Iv.CVs.cons ?_ ?_; exact Iv.CV.str; refine Iv.CVs.cons ?_ ?_; exact Iv.CV.str; refine Iv.CVs.cons ?_ ?_; exact Iv.CV.str; refine Iv.CVs.cons ?_ ?_; exact Iv.CV.str; refine Iv.CVs.cons ?_ ?_; exact Iv.CV.str; refine Iv.CVs.cons ?_ ?_; exact Iv.CV.str; refine Iv.CVs.cons ?_ ?_; exact Iv.CV.str; refine Iv.CVs.cons ?_ ?_; exact Iv.CV.str; refine Iv.CVs.cons ?_ ?_; exact Iv.CV.str; refine Iv.CVs.cons ?_ ?_; exact Iv.CV.str; refine Iv.CVs.cons ?_ ?_; exact Iv.CV.str; refine Iv.CVs.cons ?_ ?_; exact Iv.CV.str; exact Iv.CVs.nil))))
    case k_INNER =>
      refine' Iv.con_mk KX G ?a ?c
      (case a => k_is)
      (case c => (refine' Iv.CV.tup ?l3 ?z3 ?h3; (case l3 => k_is); (case z3 => decide); (case h3 => (refine Iv.CVs.cons ?_ ?_; exact Iv.CV.str; refine Iv.CVs.cons ?_ ?_; exact Iv.CV.str; refine Iv.CVs.cons ?_ ?_; exact Iv.CV.str; refine Iv.CVs.cons ?_ ?_; exact Iv.CV.str; refine Iv.CVs.cons ?_ ?_; exact Iv.CV.str; exact Iv.CVs.nil))))
    case k_MOST_THINGS =>
      refine' Iv.con_mk KX G ?a ?c
      (case a => k_is)
      (case c => (exact Iv.CV.int))
    case k_MOST_INSTRUCTIONS =>
      refine' Iv.con_mk KX G ?a ?c
      (case a => k_is)
      (case c => (exact Iv.CV.int))
    case z_len =>
      refine' PySem.W.mg_none_of KX G ?c
      (case c => k_is)
    case z_all =>
      refine' PySem.W.mg_none_of KX G ?c
      (case c => k_is)
    case z_any =>
      refine' PySem.W.mg_none_of KX G ?c
      (case c => k_is)
    case z_zip =>
      refine' PySem.W.mg_none_of KX G ?c
      (case c => k_is)
    case z_tuple =>
      refine' PySem.W.mg_none_of KX G ?c
      (case c => k_is)
    case z_isinstance =>
      refine' PySem.W.mg_none_of KX G ?c
      (case c => k_is)
    case z_range =>
      refine' PySem.W.mg_none_of KX G ?c
      (case c => k_is)
    case z_int =>
      refine' PySem.W.mg_none_of KX G ?c
      (case c => k_is)
    case ld =>
      refine' Iv.lawdef_mk KX G ?a ?l ?c ?k ?b
      (case a => k_is)
      (case l => k_is)
      (case c => k_is)
      (case k => k_is)
      (case b => intro _ _ _ _ _ _ u; rfl)
