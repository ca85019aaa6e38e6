import PyProof.Rows.All
import Wide.All
import OpenK.AllK
import Wide.FinOn
import HandS.ForMost
import HandS.Strs
import HandS.IsInst
import HandS.StrMore
import HandS.NoneIn
import KE.DataEq
import HandS.TupAny
import HandS.Codes
import PySem.Challenge.RW_whensure_k19_texts_tell_all
set_option Elab.async false
set_option linter.all false
set_option maxRecDepth 100000
namespace Vs
open PySem PySem.Spec PyProof.Rows L2

theorem posJ {j : Int} (h : decide (0 < j) = true) : 0 < j := of_decide_eq_true h
/-! ### heaps -/
theorem same_upd {H : Hp} {p : Addr} {o : HO} (h : H p = none) : Same H (upd H p o) := fun b x e => by
  rw [upd_ne (ne_of_none e h)]
  exact e
theorem sTup {K : PySem.W.Frag} {H H' : Hp} {a : Addr} {xs : List V} (e : Same H H') (h : SqT K H a xs) : SqT K H' a xs := by
  rcases h with (h | ⟨o, h⟩) | h
  · exact .inl (.inl (e _ _ h))
  · exact .inl (.inr ⟨o, e _ _ h⟩)
  · exact .inr h
/-- all that was tracked is as it was, but for what stands at o -/
def But (o : Addr) (H H' : Hp) : Prop := ∀ b u, b ≠ o → H b = some u → H' b = some u
theorem But.refl (o : Addr) (H : Hp) : But o H H := fun _ _ _ h => h
theorem But.trans {o : Addr} {H H1 H2 : Hp} (a : But o H H1) (b : But o H1 H2) : But o H H2 := fun c u n h => b c u n (a c u n h)
theorem But.of {o : Addr} {H H' : Hp} (a : Same H H') : But o H H' := fun c u _ h => a c u h
theorem But.set {o : Addr} {H : Hp} {u : HO} : But o H (upd H o u) := fun c u' n h => by rw [upd_ne n]; exact h

/-! ### xs.extend(t), t a tuple -/
theorem ext_tup (l : Addr) (items : Array Value) (n : Nat) (b : Addr) (ob : Obj) (items2 : Array Value) (n2 : Nat) (hs0 : ¬(!items.isEmpty && Builtin.List.listTooLong (items.size + items2.size)) = true) (hs1 : items.size ≤ sizeLine) (hs2 : items.size + items2.size ≤ sizeLine + 1) (hcl : ob.cls = .type "tuple") (hda : ob.data = .seq items2 n2) :
    Meets (Builtin.«list.extend» ⟨[.ref l, .ref b], []⟩) (fun _ R s => s.heap.get? l = some { cls := .type "list", dict := none, data := .seq items n, slots := #[] } ∧ s.heap.get? b = some ob ∧ R (.ok (.ret Value.none)) { s with heap := s.heap.update l (Obj.mapSeq fun x => x ++ items2), toks := s.toks }) := by
  obtain ⟨oc, od, oda, osl⟩ := ob
  cases hcl
  cases hda
  refine .of_wp fun prog w A R s h => ?_
  obtain ⟨hp, g, d, tk, os⟩ := s
  obtain ⟨hl, hb, h⟩ := h
  have f1 := AutoSeq1.idx_int; have f2 := AutoSeq1.sub_tuple_tuple; have f3 := AutoSeq1.sub_list_list; have f4 := AutoSeq1.sub_tuple_list; have f5 := AutoSeq1.sub_list_tuple
  have hz' : (items ++ items2).size ≤ sizeLine + 1 := by rw [Array.size_append]; exact hs2
  wp_walk using (wpAny_updateSeq hl rfl (hz := hs1) (_hz' := hz')), AutoSeq1.wpAny_loadPart' hl, AutoSeq1.wpAny_loadPart' hb
  exact ⟨_, rfl, h⟩
def rExtT (K : PySem.W.Frag) : V → List V → Hp → VK → Prop := fun x vs H Q => ∃ l b xs zs, x = .ref l ∧ vs = [.ref b] ∧ H l = some (.lst xs) ∧ SqT K H b zs ∧ xs.length + zs.length ≤ sizeLine ∧ Q .non (upd H l (.lst (xs ++ zs)))
theorem mt_extendT {X : Cx} : MtR X "list.extend" (rExtT X.K) := by
  intro pins s σ H x vs v us Q I rx rv h
  obtain ⟨l, b, xs, zs, rfl, rfl, hH, hB, hz, q⟩ := h
  cases rx
  obtain ⟨u, rfl, ru⟩ := rv.one
  cases ru
  obtain ⟨z, its, n, r, hl, e⟩ := I.lstM hH
  obtain ⟨its2, r2, ⟨ob, e2, hcl, n2, hda⟩, hl2⟩ := I.tuple hB
  have hl3 := r2.length
  have hsz : its.toArray.size + its2.toArray.size ≤ sizeLine := by rw [List.size_toArray, List.size_toArray]; omega
  have hlong : ¬ (!its.toArray.isEmpty && Builtin.List.listTooLong (its.toArray.size + its2.toArray.size)) = true := by
    rw [notLongL hsz, Bool.and_false]
    exact Bool.false_ne_true
  refine call_meets F.slot_list_extend ⟨_, e, rfl⟩ F.entry_list_extend (F.args_list_extend_2 _ _)
    (ext_tup l its.toArray n b ob its2.toArray n2 hlong (by rw [List.size_toArray]; omega) (by omega) hcl hda) ⟨e, e2, ?_⟩
  refine ⟨.non, _, I.lset (its' := its ++ its2) hH e (by simp) (r.append r2) ?_, rfl, q⟩
  rw [List.length_append]
  omega

/-! ### what a letter, a view holds -/
def deedNames : List Str := ["note", "kind", "mark", "send", "tell", "hear", "promise", "commit", "anew"]
theorem dn_len : deedNames.length = 9 := rfl
theorem dn_nodup : deedNames.Nodup := by decide +kernel
structure Dd where
  place : Nat
  nums : List Int
structure Ev where
  asleep : Bool
  shown : List Int
  after : List Int
  deed : Dd
  knows : List Int
structure Rc where
  dev : Int
  num : Int
  ev : Ev
structure Lt where
  s : Int
  r : Int
  k : Int
  n : Int
  recs : List Rc
def b2n (b : Bool) : Int := if b then 1 else 0
def numSeq (ns : List Int) : List Int := (ns.length : Int) :: ns
def numD (d : Dd) : List Int := (d.place : Int) :: (if d.place = 8 then numSeq d.nums else d.nums)
def numE (e : Ev) : List Int := [b2n e.asleep] ++ numSeq e.shown ++ numSeq e.after ++ numD e.deed ++ numSeq e.knows
def numR (r : Rc) : List Int := [r.dev, r.num] ++ numE r.ev
def numL (l : Lt) : List Int := [l.s, l.r, l.k, l.n, (l.recs.length : Int)] ++ l.recs.flatMap numR
def In18 (n : Int) : Prop := n.natAbs < 10 ^ 18
def Nt18 (n : Int) : Prop := In18 n ∧ 0 ≤ n
def arity (p : Nat) : Nat := [0, 2, 3, 2, 1, 2, 2, 1, 0].getD p 0
/-- which number of a deed may be below 0 -/
def mayNeg (p i : Nat) : Prop := (p = 2 ∧ i = 2) ∨ p = 7
structure Dd.Ok (d : Dd) : Prop where
  pl : d.place < 9
  len : d.nums.length ≤ 4
  ar : d.place ≠ 8 → d.nums.length = arity d.place
  sm : ∀ n ∈ d.nums, In18 n
  nt : ∀ i n, d.nums[i]? = some n → ¬ mayNeg d.place i → 0 ≤ n
structure Ev.Ok (e : Ev) : Prop where
  s1 : e.shown.length ≤ 4
  s2 : e.after.length ≤ 4
  s3 : e.knows.length ≤ 6
  m1 : ∀ n ∈ e.shown, In18 n
  m2 : ∀ n ∈ e.after, In18 n
  m3 : ∀ n ∈ e.knows, Nt18 n
  d : e.deed.Ok
structure Rc.Ok (r : Rc) : Prop where
  d : Nt18 r.dev
  n : Nt18 r.num
  e : r.ev.Ok
structure Lt.Ok (l : Lt) : Prop where
  s : Nt18 l.s
  r : Nt18 l.r
  k : Nt18 l.k
  n : Nt18 l.n
  len : l.recs.length ≤ 20
  rs : ∀ r ∈ l.recs, r.Ok
/-- the tuple of a list of ints -/
def TupI (K : PySem.W.Frag) (H : Hp) (a : Addr) (ns : List Int) : Prop := SqT K H a (ns.map V.int)
def DdAt (K : PySem.W.Frag) (H : Hp) (a : Addr) (d : Dd) : Prop :=
  ∃ z rest, deedNames[d.place]? = some z ∧ SqT K H a (.str z :: rest) ∧ ((d.place = 8 ∧ ∃ b, rest = [.ref b] ∧ TupI K H b d.nums) ∨ (d.place ≠ 8 ∧ rest = d.nums.map V.int))
def EvAt (K : PySem.W.Frag) (H : Hp) (a : Addr) (e : Ev) : Prop :=
  ∃ p q d r, SqT K H a [.bl e.asleep, .ref p, .ref q, .ref d, .ref r] ∧ TupI K H p e.shown ∧ TupI K H q e.after ∧ DdAt K H d e.deed ∧ TupI K H r e.knows
def RcAt (K : PySem.W.Frag) (H : Hp) (a : Addr) (r : Rc) : Prop := ∃ e, SqT K H a [.int r.dev, .int r.num, .ref e] ∧ EvAt K H e r.ev
/-- objects one beside the other -/
def Each {α : Type} (P : Addr → α → Prop) (as : List Addr) (xs : List α) : Prop := as.length = xs.length ∧ ∀ (i : Nat) (a : Addr) (x : α), as[i]? = some a → xs[i]? = some x → P a x
def LtAt (K : PySem.W.Frag) (H : Hp) (a : Addr) (l : Lt) : Prop :=
  ∃ b as, SqT K H a [.int l.s, .int l.r, .int l.k, .int l.n, .ref b] ∧ SqT K H b (as.map V.ref) ∧ Each (RcAt K H) as l.recs
section
variable {K : PySem.W.Frag} {H H' : Hp}
theorem TupI.keep {a ns} (e : Same H H') (h : TupI K H a ns) : TupI K H' a ns := sTup e h
theorem DdAt.keep {a d} (e : Same H H') (h : DdAt K H a d) : DdAt K H' a d := by
  obtain ⟨z, rest, h0, h1, h2⟩ := h
  refine ⟨z, rest, h0, sTup e h1, ?_⟩
  rcases h2 with ⟨h2, b, h3, h4⟩ | h2
  · exact .inl ⟨h2, b, h3, h4.keep e⟩
  · exact .inr h2
theorem EvAt.keep {a d} (e : Same H H') (h : EvAt K H a d) : EvAt K H' a d := by
  obtain ⟨p, q, d, r, h1, h2, h3, h4, h5⟩ := h
  exact ⟨p, q, d, r, sTup e h1, h2.keep e, h3.keep e, h4.keep e, h5.keep e⟩
theorem RcAt.keep {a d} (e : Same H H') (h : RcAt K H a d) : RcAt K H' a d := by
  obtain ⟨p, h1, h2⟩ := h
  exact ⟨p, sTup e h1, h2.keep e⟩
theorem Each.keep {α : Type} {P P' : Addr → α → Prop} {as xs} (h : Each P as xs) (f : ∀ a x, P a x → P' a x) : Each P' as xs := ⟨h.1, fun i a x h1 h2 => f a x (h.2 i a x h1 h2)⟩
theorem Each.nil {α : Type} {P : Addr → α → Prop} : Each P [] [] := ⟨rfl, fun i a x h => by simp at h⟩
theorem Each.snoc {α : Type} {P : Addr → α → Prop} {as xs} (h : Each P as xs) {a : Addr} {x : α} (p : P a x) : Each P (as ++ [a]) (xs ++ [x]) := by
  refine ⟨by simp [h.1], fun i b y h1 h2 => ?_⟩
  by_cases hi : i < as.length
  · rw [List.getElem?_append_left hi] at h1
    rw [List.getElem?_append_left (by rw [← h.1]; exact hi)] at h2
    exact h.2 i b y h1 h2
  · rw [List.getElem?_append_right (by omega)] at h1
    rw [List.getElem?_append_right (by rw [← h.1]; omega)] at h2
    rw [← h.1] at h2
    cases e : i - as.length with
    | zero =>
      rw [e] at h1 h2
      cases h1
      cases h2
      exact p
    | succ n =>
      rw [e] at h1
      simp at h1
theorem Each.get {α : Type} {P : Addr → α → Prop} {as xs} (h : Each P as xs) {i : Nat} {a : Addr} (ha : as[i]? = some a) : ∃ x, xs[i]? = some x ∧ P a x := by
  have hi : i < xs.length := by rw [← h.1]; exact (List.getElem?_eq_some_iff.mp ha).1
  exact ⟨xs[i], List.getElem?_eq_getElem hi, h.2 i a _ ha (List.getElem?_eq_getElem hi)⟩
theorem LtAt.keep {a d} (e : Same H H') (h : LtAt K H a d) : LtAt K H' a d := by
  obtain ⟨b, as, h1, h2, h3⟩ := h
  exact ⟨b, as, sTup e h1, sTup e h2, h3.keep fun _ _ q => q.keep e⟩
end
/-! ### sizes -/
theorem numD_len {d : Dd} (h : d.Ok) : (numD d).length ≤ 6 := by
  have := h.len
  unfold numD numSeq
  split <;> simp <;> omega
theorem numE_len {e : Ev} (h : e.Ok) : (numE e).length ≤ 24 := by
  have h1 := h.s1; have h2 := h.s2; have h3 := h.s3; have h4 := numD_len h.d
  unfold numE numSeq
  simp only [List.length_append, List.length_cons, List.length_nil]
  omega
theorem numR_len {r : Rc} (h : r.Ok) : (numR r).length ≤ 26 := by
  have h1 := numE_len h.e
  unfold numR
  simp only [List.length_append, List.length_cons, List.length_nil]
  omega
theorem flat_len {α : Type} {f : α → List Int} {m : Nat} : ∀ {xs : List α}, (∀ x ∈ xs, (f x).length ≤ m) → (xs.flatMap f).length ≤ xs.length * m
  | [], _ => by simp
  | x :: r, h => by
    have h1 := h x List.mem_cons_self
    have h2 := flat_len (xs := r) fun y hy => h y (List.mem_cons_of_mem _ hy)
    rw [List.flatMap_cons, List.length_append, List.length_cons, Nat.succ_mul]
    omega
theorem In18.zero : In18 0 := by unfold In18; decide
theorem In18.small {n : Nat} (h : n ≤ 1000) : In18 (n : Int) := by
  unfold In18
  rw [Int.natAbs_natCast]
  exact Nat.lt_of_le_of_lt h (by decide)
theorem In18.log {n : Int} (h : In18 n) : n.natAbs.log2 < 1920 := by
  unfold In18 at h
  by_cases h0 : n.natAbs = 0
  · rw [h0]
    decide
  · exact (Nat.log2_lt h0).mpr (Nat.lt_of_lt_of_le h (by decide +kernel))
theorem numD_in {d : Dd} (h : d.Ok) : ∀ n ∈ numD d, In18 n := by
  intro n hn
  have hp := h.pl
  have hl := h.len
  unfold numD at hn
  rcases List.mem_cons.mp hn with e | hn
  · rw [e]
    exact In18.small (by omega)
  · split at hn
    · unfold numSeq at hn
      rcases List.mem_cons.mp hn with e | hn
      · rw [e]
        exact In18.small (by omega)
      · exact h.sm n hn
    · exact h.sm n hn
theorem seq_in {ns : List Int} (hl : ns.length ≤ 1000) (h : ∀ n ∈ ns, In18 n) : ∀ n ∈ numSeq ns, In18 n := by
  intro n hn
  unfold numSeq at hn
  rcases List.mem_cons.mp hn with e | hn
  · rw [e]
    exact In18.small hl
  · exact h n hn
theorem numE_in {e : Ev} (h : e.Ok) : ∀ n ∈ numE e, In18 n := by
  intro n hn
  have h1 := h.s1; have h2 := h.s2; have h3 := h.s3
  unfold numE at hn
  rcases List.mem_append.mp hn with hn | hn
  · rcases List.mem_append.mp hn with hn | hn
    · rcases List.mem_append.mp hn with hn | hn
      · rcases List.mem_append.mp hn with hn | hn
        · rw [List.mem_singleton.mp hn]
          unfold b2n
          split
          · exact In18.small (n := 1) (by decide)
          · exact In18.zero
        · exact seq_in (by omega) h.m1 n hn
      · exact seq_in (by omega) h.m2 n hn
    · exact numD_in h.d n hn
  · exact seq_in (by omega) (fun n hn => (h.m3 n hn).1) n hn
theorem numR_in {r : Rc} (h : r.Ok) : ∀ n ∈ numR r, In18 n := by
  intro n hn
  unfold numR at hn
  rcases List.mem_append.mp hn with hn | hn
  · rcases List.mem_cons.mp hn with e | hn
    · rw [e]; exact h.d.1
    · rw [List.mem_singleton.mp hn]; exact h.n.1
  · exact numE_in h.e n hn
theorem numL_len {l : Lt} (h : l.Ok) : (numL l).length ≤ 600 := by
  have h1 := flat_len (f := numR) (m := 26) (xs := l.recs) fun r hr => numR_len (h.rs r hr)
  have h2 := h.len
  unfold numL
  simp only [List.length_append, List.length_cons, List.length_nil]
  omega
theorem numL_in {l : Lt} (h : l.Ok) : ∀ n ∈ numL l, In18 n := by
  intro n hn
  have hl := h.len
  unfold numL at hn
  rcases List.mem_append.mp hn with hn | hn
  · simp only [List.mem_cons, List.not_mem_nil, or_false] at hn
    rcases hn with e | e | e | e | e <;> rw [e]
    · exact h.s.1
    · exact h.r.1
    · exact h.k.1
    · exact h.n.1
    · exact In18.small (by omega)
  · obtain ⟨r, hr, hn⟩ := List.mem_flatMap.mp hn
    exact numR_in (h.rs r hr) n hn
/-! ### the text -/
def words (ns : List Int) : List Str := ns.map fun n => toString n
def textOf (head : Str) (ns : List Int) : Str := head ++ Str.ofString "\n" ++ Txt.join (Str.ofString " ") (words ns) ++ Str.ofString "\n"

theorem join_len (y : Str) : ∀ parts : List Str, (Str.join y parts).length ≤ (parts.map (·.length)).sum + parts.length * y.length
  | [] => Nat.zero_le _
  | [x] => by
    show x.length ≤ x.length + 0 + _
    omega
  | x :: z :: r => by
    have h := join_len y (z :: r)
    show (x ++ y ++ Str.join y (z :: r)).length ≤ _
    rw [Str.length_append, Str.length_append]
    rw [List.map_cons, List.sum_cons, List.length_cons, Nat.succ_mul]
    omega
theorem word_len {n : Int} (h : In18 n) : (Str.ofString (toString n)).length ≤ 19 := by
  unfold In18 at h
  have e := int_text_length_le10 (k := 18) (by decide) h
  rw [PySem.ofString_length]
  exact e
theorem words_sum {ns : List Int} (h : ∀ n ∈ ns, In18 n) : ((words ns).map (·.length)).sum ≤ ns.length * 19 := by
  induction ns with
  | nil => exact Nat.zero_le _
  | cons a r ih =>
    have h1 := word_len (h a List.mem_cons_self)
    have h2 := ih fun n hn => h n (List.mem_cons_of_mem _ hn)
    show (Str.ofString (toString a)).length + ((words r).map (·.length)).sum ≤ _
    rw [List.length_cons, Nat.succ_mul]
    omega
theorem words_len (ns : List Int) : (words ns).length = ns.length := List.length_map _
theorem blank_len : (Str.ofString " ").length = 1 := by decide +kernel
theorem nl_len : (Str.ofString "\n").length = 1 := by decide +kernel
theorem joined_len {ns : List Int} (h : ∀ n ∈ ns, In18 n) : (Txt.join (Str.ofString " ") (words ns)).length ≤ ns.length * 20 := by
  have h1 := join_len (Str.ofString " ") (words ns)
  have h2 := words_sum h
  rw [← TL.join_eq, words_len, blank_len] at h1
  omega
theorem line2 : (20000 : Nat) ≤ sizeLine := by decide
theorem join_fit {ns : List Int} (h : ∀ n ∈ ns, In18 n) (hl : ns.length ≤ 1000) : ((words ns).map (·.length)).sum + (words ns).length * (Str.ofString " ").length ≤ 16777216 := by
  have h2 := words_sum h
  rw [words_len, blank_len]
  omega
theorem sizes {n : Nat} (h : n ≤ 100000) : n ≤ sizeLine := Nat.le_trans h (by decide)
theorem sizes' {n : Nat} (h : n ≤ 100000) : n < sizeLine := Nat.lt_of_le_of_lt h (by decide)
theorem words_take_succ {ns : List Int} {i : Nat} (h : i < ns.length) : words (ns.take (i + 1)) = words (ns.take i) ++ [(toString ns[i] : Str)] := by
  unfold words
  rw [List.take_add_one, List.getElem?_eq_getElem h, List.map_append]
  rfl
theorem int_get {ns : List Int} {i : Nat} {x : V} (h : (ns.map V.int)[i]? = some x) : ∃ hi : i < ns.length, x = V.int ns[i] := by
  have hi := (List.getElem?_eq_some_iff.mp h).1
  rw [List.length_map] at hi
  refine ⟨hi, ?_⟩
  rw [List.getElem?_map, List.getElem?_eq_getElem hi] at h
  exact (Option.some.inj h).symm
theorem ref_get {as : List Addr} {i : Nat} {x : V} (h : (as.map V.ref)[i]? = some x) : ∃ hi : i < as.length, x = V.ref as[i] := by
  have hi := (List.getElem?_eq_some_iff.mp h).1
  rw [List.length_map] at hi
  refine ⟨hi, ?_⟩
  rw [List.getElem?_map, List.getElem?_eq_getElem hi] at h
  exact (Option.some.inj h).symm
/-! ### what is no list stands while the list at o changes -/
theorem butTup {K : PySem.W.Frag} {H H' : Hp} {o a : Addr} {xs ys : List V} (e : But o H H') (ho : H o = some (.lst xs)) (h : SqT K H a ys) : SqT K H' a ys := by
  rcases h with (h | ⟨ob, h⟩) | h
  · exact .inl (.inl (e _ _ (ne_of h ho (by intro z; cases z)) h))
  · exact .inl (.inr ⟨ob, e _ _ (ne_of h ho (by intro z; cases z)) h⟩)
  · exact .inr h
section
variable {K : PySem.W.Frag} {H H' : Hp} {o : Addr} {xs : List V}
theorem TupI.but {a ns} (e : But o H H') (ho : H o = some (.lst xs)) (h : TupI K H a ns) : TupI K H' a ns := butTup e ho h
theorem DdAt.but {a d} (e : But o H H') (ho : H o = some (.lst xs)) (h : DdAt K H a d) : DdAt K H' a d := by
  obtain ⟨z, rest, h0, h1, h2⟩ := h
  refine ⟨z, rest, h0, butTup e ho h1, ?_⟩
  rcases h2 with ⟨h2, b, h3, h4⟩ | h2
  · exact .inl ⟨h2, b, h3, h4.but e ho⟩
  · exact .inr h2
theorem EvAt.but {a d} (e : But o H H') (ho : H o = some (.lst xs)) (h : EvAt K H a d) : EvAt K H' a d := by
  obtain ⟨p, q, d, r, h1, h2, h3, h4, h5⟩ := h
  exact ⟨p, q, d, r, butTup e ho h1, h2.but e ho, h3.but e ho, h4.but e ho, h5.but e ho⟩
end
/-! ### the names of deeds -/
theorem dn_first {j m : Nat} {z : Str} (h : deedNames[j]? = some z) (hm : m < j) : deedNames[m]? ≠ some z := fun e => by
  have := nd_ix dn_nodup e h
  omega
theorem dn_anew {j : Nat} {z : Str} (h : deedNames[j]? = some z) : z = "anew" ↔ j = 8 := by
  refine ⟨fun e => nd_ix dn_nodup (x := z) h (by rw [e]; rfl), fun e => ?_⟩
  subst e
  exact (Option.some.inj h).symm
theorem dn_note {j : Nat} {z : Str} (h : deedNames[j]? = some z) : z = "note" ↔ j = 0 := by
  refine ⟨fun e => nd_ix dn_nodup (x := z) h (by rw [e]; rfl), fun e => ?_⟩
  subst e
  exact (Option.some.inj h).symm
/-- a def of the text, as it stands behind the top -/
structure Df (K : PySem.W.Frag) (mg : Str → Option Value) (x : Str) (st : Stmt) (ps : List Str) (f : Addr) (fd : FuncData) : Prop where
  F : Fun K x x st f fd
  b : Binds K fd ps []
  m : mg x = some (.ref f)
/-- the built-ins that the text calls are still its own -/
structure Txt (K : PySem.W.Frag) (mg : Str → Option Value) : Prop where
  len : mg "len" = none
  str : mg "str" = none
  int : mg "int" = none
  range : mg "range" = none
  tuple : mg "tuple" = none
  list : mg "list" = none
  isinstance : mg "isinstance" = none
  bool : mg "bool" = none
  all : mg "all" = none
/-- the tuple of the deeds' names stands at aD -/
structure Deeds (K : PySem.W.Frag) (mg : Str → Option Value) (aD : Addr) : Prop where
  m : mg "DEEDS" = some (.ref aD)
  o : ∃ ob : Obj, K.lookup aD = some ob ∧ ob.cls = .type "tuple" ∧ ob.dict = none
  sq : ∀ H, SqT K H aD (deedNames.map V.str)

theorem vint_eq {a b : Int} (c : decide (V.int a = V.int b) = true) : a = b := by injection (of_decide_eq_true c)
theorem vint_ne {a b : Int} (c : ¬ decide (V.int a = V.int b) = true) : a ≠ b := fun e => c (decide_eq_true (by rw [e]))
theorem one_of {ns : List Int} (h : ns.length = 1) : ∃ x, ns = [x] := by
  match ns, h with
  | [x], _ => exact ⟨x, rfl⟩
theorem two_of {ns : List Int} (h : ns.length = 2) : ∃ x y, ns = [x, y] := by
  match ns, h with
  | [x, y], _ => exact ⟨x, y, rfl⟩
theorem four_of {ns : List Int} (h : ns.length = 4) : ∃ x y z u, ns = [x, y, z, u] := by
  match ns, h with
  | [x, y, z, u], _ => exact ⟨x, y, z, u, rfl⟩
theorem nt_one {a n : Int} {i : Nat} (h : [a][i]? = some n) (ha : 0 ≤ a) : 0 ≤ n := by
  match i, h with
  | 0, h => cases h; exact ha
theorem nt_two {a b n : Int} {i : Nat} (h : [a, b][i]? = some n) (ha : 0 ≤ a) (hb : 0 ≤ b) : 0 ≤ n := by
  match i, h with
  | 0, h => cases h; exact ha
  | 1, h => cases h; exact hb
theorem nt_three {a b c n : Int} {i : Nat} (h : [a, b, c][i]? = some n) (h2 : ¬ mayNeg 2 i) (ha : 0 ≤ a) (hb : 0 ≤ b) : 0 ≤ n := by
  match i, h with
  | 0, h => cases h; exact ha
  | 1, h => cases h; exact hb
  | 2, h => exact absurd (Or.inl ⟨rfl, rfl⟩) h2
end Vs

namespace Vs
open PySem PySem.Spec PyProof.Rows L2
section
variable {K : PySem.W.Frag} {H H' : Hp}
theorem tyT {a : Addr} {xs : List V} (h : SqT K H a xs) : TyX K H (.ref a) (.type "tuple") := by
  rcases h with (h | ⟨o, h⟩) | ⟨o, its, n, h, hc, _⟩
  · exact .base (.tup h)
  · exact .fTuple h
  · exact .kTuple h hc
theorem tyL {a : Addr} {xs : List V} (h : SqL K H a xs) : TyX K H (.ref a) (.type "list") := by
  rcases h with (h | ⟨o, h⟩) | ⟨o, its, n, h, hc, _⟩
  · exact .base (.lst h)
  · exact .base (.frz h)
  · exact .kList h hc
/-- both denote the same, down to depth n -/
def Sim (K : PySem.W.Frag) (H : Hp) : Nat → V → V → Prop
  | 0, _, _ => False
  | n + 1, x, y => (∃ b, x = .bl b ∧ y = .bl b) ∨ (∃ i, x = .int i ∧ y = .int i) ∨ (∃ z, x = .str z ∧ y = .str z) ∨
    (∃ a b xs ys, x = .ref a ∧ y = .ref b ∧ ((SqT K H a xs ∧ SqT K H b ys) ∨ (SqL K H a xs ∧ SqL K H b ys)) ∧ xs.length = ys.length ∧ xs.length ≤ 1000 ∧ ∀ (i : Nat) u v, xs[i]? = some u → ys[i]? = some v → Sim K H n u v)
theorem Sim.int {n : Nat} {i : Int} : Sim K H (n + 1) (.int i) (.int i) := .inr (.inl ⟨i, rfl, rfl⟩)
theorem Sim.str {n : Nat} {z : Str} : Sim K H (n + 1) (.str z) (.str z) := .inr (.inr (.inl ⟨z, rfl, rfl⟩))
theorem Sim.bl {n : Nat} {b : Bool} : Sim K H (n + 1) (.bl b) (.bl b) := .inl ⟨b, rfl, rfl⟩
theorem Sim.tup {n : Nat} {a b : Addr} {xs ys : List V} (h1 : SqT K H a xs) (h2 : SqT K H b ys) (hl : xs.length = ys.length) (hs : xs.length ≤ 1000) (h : ∀ (i : Nat) u v, xs[i]? = some u → ys[i]? = some v → Sim K H n u v) : Sim K H (n + 1) (.ref a) (.ref b) :=
  .inr (.inr (.inr ⟨a, b, xs, ys, rfl, rfl, .inl ⟨h1, h2⟩, hl, hs, h⟩))
theorem Sim.lst {n : Nat} {a b : Addr} {xs ys : List V} (h1 : SqL K H a xs) (h2 : SqL K H b ys) (hl : xs.length = ys.length) (hs : xs.length ≤ 1000) (h : ∀ (i : Nat) u v, xs[i]? = some u → ys[i]? = some v → Sim K H n u v) : Sim K H (n + 1) (.ref a) (.ref b) :=
  .inr (.inr (.inr ⟨a, b, xs, ys, rfl, rfl, .inr ⟨h1, h2⟩, hl, hs, h⟩))
theorem all_nil {R : V → V → Prop} : ∀ (i : Nat) u v, ([] : List V)[i]? = some u → ([] : List V)[i]? = some v → R u v := fun i u v h => by simp at h
theorem all_cons {R : V → V → Prop} {x y : V} {xs ys : List V} (h : R x y) (t : ∀ (i : Nat) u v, xs[i]? = some u → ys[i]? = some v → R u v) : ∀ (i : Nat) u v, (x :: xs)[i]? = some u → (y :: ys)[i]? = some v → R u v
  | 0, _, _, h1, h2 => by cases h1; cases h2; exact h
  | i + 1, u, v, h1, h2 => t i u v h1 h2
theorem all_ints {n : Nat} {ns : List Int} : ∀ (i : Nat) u v, (ns.map V.int)[i]? = some u → (ns.map V.int)[i]? = some v → Sim K H (n + 1) u v := fun i u v h1 h2 => by
  rw [h1] at h2
  cases h2
  obtain ⟨hi, rfl⟩ := int_get h1
  exact .int
theorem simI {n : Nat} {a b : Addr} {ns : List Int} (h1 : TupI K H a ns) (h2 : TupI K H b ns) (hs : ns.length ≤ 1000) : Sim K H (n + 2) (.ref a) (.ref b) := .tup h1 h2 rfl (by rw [List.length_map]; exact hs) all_ints
theorem simD {n : Nat} {a b : Addr} {d : Dd} (h1 : DdAt K H a d) (h2 : DdAt K H b d) (hk : d.Ok) : Sim K H (n + 3) (.ref a) (.ref b) := by
  have hl := hk.len
  obtain ⟨z, r, e1, t1, q1⟩ := h1
  obtain ⟨z', r', e2, t2, q2⟩ := h2
  rw [e1] at e2
  cases e2
  rcases q1 with ⟨p8, c, rfl, h1⟩ | ⟨n8, rfl⟩
  · rcases q2 with ⟨_, c', rfl, h2⟩ | ⟨n8, _⟩
    · exact .tup t1 t2 rfl (by show 2 ≤ 1000; decide) (all_cons .str (all_cons (simI h1 h2 (by omega)) all_nil))
    · exact absurd p8 n8
  · rcases q2 with ⟨p8, _⟩ | ⟨_, rfl⟩
    · exact absurd p8 n8
    · exact .tup t1 t2 rfl (by rw [List.length_cons, List.length_map]; omega) (all_cons .str all_ints)
theorem simE {n : Nat} {a b : Addr} {e : Ev} (h1 : EvAt K H a e) (h2 : EvAt K H b e) (hk : e.Ok) : Sim K H (n + 4) (.ref a) (.ref b) := by
  have k1 := hk.s1; have k2 := hk.s2; have k3 := hk.s3
  obtain ⟨p, q, d, r, t, f1, f2, f3, f4⟩ := h1
  obtain ⟨p', q', d', r', t', g1, g2, g3, g4⟩ := h2
  exact .tup t t' rfl (by show 5 ≤ 1000; decide) (all_cons .bl (all_cons (simI f1 g1 (by omega)) (all_cons (simI f2 g2 (by omega)) (all_cons (simD f3 g3 hk.d) (all_cons (simI f4 g4 (by omega)) all_nil)))))
theorem simR {n : Nat} {a b : Addr} {r : Rc} (h1 : RcAt K H a r) (h2 : RcAt K H b r) (hk : r.Ok) : Sim K H (n + 5) (.ref a) (.ref b) := by
  obtain ⟨e, t, f⟩ := h1
  obtain ⟨e', t', g⟩ := h2
  exact .tup t t' rfl (by show 3 ≤ 1000; decide) (all_cons .int (all_cons .int (all_cons (simE f g hk.e) all_nil)))
theorem simEach {α : Type} {P : Addr → α → Prop} {n : Nat} {as bs : List Addr} {xs : List α} (h1 : Each P as xs) (h2 : Each P bs xs) (h : ∀ a b x, x ∈ xs → P a x → P b x → Sim K H n (.ref a) (.ref b)) :
    ∀ (i : Nat) u v, (as.map V.ref)[i]? = some u → (bs.map V.ref)[i]? = some v → Sim K H n u v := fun i u v e1 e2 => by
  obtain ⟨i1, rfl⟩ := ref_get e1
  obtain ⟨i2, rfl⟩ := ref_get e2
  have ix : i < xs.length := by rw [← h1.1]; exact i1
  exact h _ _ xs[i] (List.getElem_mem ix) (h1.2 i _ _ (List.getElem?_eq_getElem i1) (List.getElem?_eq_getElem ix)) (h2.2 i _ _ (List.getElem?_eq_getElem i2) (List.getElem?_eq_getElem ix))
theorem simL {n : Nat} {a b : Addr} {l : Lt} (h1 : LtAt K H a l) (h2 : LtAt K H b l) (hk : l.Ok) : Sim K H (n + 7) (.ref a) (.ref b) := by
  have hl := hk.len
  obtain ⟨p, as, t, f, g⟩ := h1
  obtain ⟨p', as', t', f', g'⟩ := h2
  refine .tup t t' rfl (by show 5 ≤ 1000; decide) (all_cons .int (all_cons .int (all_cons .int (all_cons .int (all_cons ?_ all_nil)))))
  exact .tup f f' (by rw [List.length_map, List.length_map, g.1, g'.1]) (by rw [List.length_map, g.1]; omega) (simEach g g' fun a b x hx u v => simR u v (hk.rs x hx))
/-! ### what some calls ask, without the frame -/
abbrev rListOf (K : PySem.W.Frag) : List V → Hp → VK → Prop := fun xs H Q => ∃ p ys, xs = [V.ref p] ∧ (SqL K H p ys ∨ SqT K H p ys) ∧ ∀ l, H l = none → Q (.ref l) (upd H l (.lst ys))
abbrev rTupleOf (K : PySem.W.Frag) : List V → Hp → VK → Prop := fun xs H Q => ∃ p ys, xs = [V.ref p] ∧ ((SqL K H p ys ∧ ∀ l, H l = none → Q (.ref l) (upd H l (.tup ys))) ∨ (SqT K H p ys ∧ Q (.ref p) H))
abbrev rLenOf (K : PySem.W.Frag) : List V → Hp → VK → Prop := fun xs H Q => ∃ p ys, xs = [V.ref p] ∧ (SqL K H p ys ∨ SqT K H p ys) ∧ Q (.int ys.length) H
/-! ### views -/
def RowAt (K : PySem.W.Frag) (H : Hp) (a : Addr) (es : List Ev) : Prop := ∃ as, H a = some (.lst (as.map V.ref)) ∧ Each (EvAt K H) as es
def VwAt (K : PySem.W.Frag) (H : Hp) (v : Addr) (vw : List (List Ev)) : Prop := ∃ rows, H v = some (.lst (rows.map V.ref)) ∧ Each (RowAt K H) rows vw
theorem RowAt.keep {a es} (e : Same H H') (h : RowAt K H a es) : RowAt K H' a es := by
  obtain ⟨as, h1, h2⟩ := h
  exact ⟨as, e _ _ h1, h2.keep fun _ _ z => z.keep e⟩
theorem VwAt.keep {v vw} (e : Same H H') (h : VwAt K H v vw) : VwAt K H' v vw := by
  obtain ⟨as, h1, h2⟩ := h
  exact ⟨as, e _ _ h1, h2.keep fun _ _ z => z.keep e⟩
structure VwOk (vw : List (List Ev)) : Prop where
  len : vw.length ≤ 6
  sum : (vw.map List.length).sum ≤ 40
  ok : ∀ es ∈ vw, ∀ e ∈ es, e.Ok
def numEs (es : List Ev) : List Int := (es.length : Int) :: es.flatMap numE
def numV (vw : List (List Ev)) : List Int := (vw.length : Int) :: vw.flatMap numEs
theorem len_le_sum {vw : List (List Ev)} {es : List Ev} (h : es ∈ vw) : es.length ≤ (vw.map List.length).sum := by
  induction vw with
  | nil => simp at h
  | cons x r ih =>
    rw [List.map_cons, List.sum_cons]
    rcases List.mem_cons.mp h with e | h
    · rw [e]; omega
    · have := ih h; omega
theorem simRow {n : Nat} {a b : Addr} {es : List Ev} (h1 : RowAt K H a es) (h2 : RowAt K H b es) (hl : es.length ≤ 100) (hk : ∀ e ∈ es, e.Ok) : Sim K H (n + 5) (.ref a) (.ref b) := by
  obtain ⟨as, f, g⟩ := h1
  obtain ⟨as', f', g'⟩ := h2
  exact .lst (SqL.of f) (SqL.of f') (by rw [List.length_map, List.length_map, g.1, g'.1]) (by rw [List.length_map, g.1]; omega) (simEach g g' fun a b x hx u v => simE u v (hk x hx))
theorem simV {n : Nat} {a b : Addr} {vw : List (List Ev)} (h1 : VwAt K H a vw) (h2 : VwAt K H b vw) (hk : VwOk vw) : Sim K H (n + 6) (.ref a) (.ref b) := by
  have hl := hk.len
  have hs := hk.sum
  obtain ⟨as, f, g⟩ := h1
  obtain ⟨as', f', g'⟩ := h2
  exact .lst (SqL.of f) (SqL.of f') (by rw [List.length_map, List.length_map, g.1, g'.1]) (by rw [List.length_map, g.1]; omega) (simEach g g' fun a b x hx u v => simRow u v (by have := len_le_sum hx; omega) (hk.ok x hx))
end
theorem numV_len_le {vw : List (List Ev)} (h : ∀ es ∈ vw, ∀ e ∈ es, e.Ok) : (vw.flatMap numEs).length ≤ vw.length + (vw.map List.length).sum * 24 := by
  induction vw with
  | nil => exact Nat.zero_le _
  | cons x r ih =>
    have h1 := ih fun es hes => h es (List.mem_cons_of_mem _ hes)
    have h2 := flat_len (f := numE) (m := 24) (xs := x) fun e he => numE_len (h x List.mem_cons_self e he)
    rw [List.flatMap_cons, List.length_append, List.map_cons, List.sum_cons, List.length_cons]
    show ((x.length : Int) :: x.flatMap numE).length + _ ≤ _
    rw [List.length_cons]
    omega
theorem numV_len {vw : List (List Ev)} (h : VwOk vw) : (numV vw).length ≤ 967 := by
  have h1 := numV_len_le h.ok
  have h2 := h.len
  have h3 := h.sum
  unfold numV
  rw [List.length_cons]
  omega
theorem numEs_in {es : List Ev} (hl : es.length ≤ 100) (h : ∀ e ∈ es, e.Ok) : ∀ n ∈ numEs es, In18 n := by
  intro n hn
  unfold numEs at hn
  rcases List.mem_cons.mp hn with e | hn
  · rw [e]; exact In18.small (by omega)
  · obtain ⟨e, he, hn⟩ := List.mem_flatMap.mp hn
    exact numE_in (h e he) n hn
theorem numV_in {vw : List (List Ev)} (h : VwOk vw) : ∀ n ∈ numV vw, In18 n := by
  intro n hn
  have h2 := h.len
  have h3 := h.sum
  unfold numV at hn
  rcases List.mem_cons.mp hn with e | hn
  · rw [e]; exact In18.small (by omega)
  · obtain ⟨es, he, hn⟩ := List.mem_flatMap.mp hn
    exact numEs_in (by have := len_le_sum he; omega) (h.ok es he) n hn
theorem flat_take_le {α : Type} {f : α → List Int} {xs : List α} (i : Nat) : ((xs.take i).flatMap f).length ≤ (xs.flatMap f).length := by
  rw [show xs.flatMap f = (xs.take i).flatMap f ++ (xs.drop i).flatMap f by rw [← List.flatMap_append, List.take_append_drop], List.length_append]
  omega
theorem flat_take {α : Type} {f : α → List Int} {xs : List α} {i : Nat} {x : α} (h : xs[i]? = some x) : (xs.take (i + 1)).flatMap f = (xs.take i).flatMap f ++ f x := by
  rw [List.take_add_one, h, List.flatMap_append]
  show _ ++ (f x ++ []) = _
  rw [List.append_nil]
theorem flat_take_len {α : Type} {f : α → List Int} {m : Nat} {xs : List α} (h : ∀ x ∈ xs, (f x).length ≤ m) (i : Nat) : ((xs.take i).flatMap f).length ≤ i * m := by
  have h1 := flat_len (f := f) (m := m) (xs := xs.take i) fun x hx => h x (List.mem_of_mem_take hx)
  have h2 : (xs.take i).length ≤ i := by rw [List.length_take]; omega
  exact Nat.le_trans h1 (Nat.mul_le_mul_right m h2)
theorem sum_grow {vw : List (List Ev)} {j : Nat} {es : List Ev} {e : Ev} (h : vw[j]? = some es) : ((vw.set j (es ++ [e])).map List.length).sum = (vw.map List.length).sum + 1 := by
  induction vw generalizing j with
  | nil => simp at h
  | cons x r ih =>
    cases j with
    | zero =>
      cases h
      show (es ++ [e]).length + (r.map List.length).sum = es.length + (r.map List.length).sum + 1
      rw [List.length_append, List.length_singleton]
      omega
    | succ j =>
      show x.length + ((r.set j (es ++ [e])).map List.length).sum = x.length + (r.map List.length).sum + 1
      rw [ih h]
      omega
theorem cut1 (xs : List V) : cutV xs (some 1) none = xs.drop 1 := by
  unfold cutV
  rw [show HT.sIx xs.length 0 (some 1) = min 1 xs.length from HT.sIx_nat xs.length 0 1, HT.sIx_none]
  cases xs with
  | nil => rfl
  | cons x r =>
    rw [show min 1 (x :: r).length = 1 by rw [List.length_cons]; omega]
    show (List.take ((x :: r).length - 1) r) = r
    rw [List.length_cons, Nat.add_sub_cancel]
    exact List.take_length
def headL (l : Lt) : List Int := [l.s, l.r, l.k, l.n, (l.recs.length : Int)]
end Vs

namespace Vs
open PySem PySem.Spec PyProof.Rows L2
/-! ### the words of a text -/
abbrev wd (n : Int) : Str := Str.ofString (toString n)
theorem tl_pos {n : Int} (h : 0 ≤ n) : TL.tl (wd n) = TL.numL n.natAbs := by
  have e : n = ((n.natAbs : Nat) : Int) := by omega
  unfold wd
  rw [e, TL.tl_num]
  rfl
theorem tl_neg {n : Int} (h : n < 0) : TL.tl (wd n) = 45 :: TL.numL n.natAbs := by
  have e : (0 : Int) - n = ((n.natAbs : Nat) : Int) := by omega
  unfold wd
  rw [PyProof.Rows.toString_neg h, e]
  have q := TL.tl_num n.natAbs
  rw [TL.tl_ofString] at q ⊢
  rw [String.toList_append, List.map_append, q]
  rfl
theorem In18.numL {n : Int} (h : In18 n) : (TL.numL n.natAbs).length ≤ 18 := TL.numL_len (by decide) h
theorem wd_free {n : Int} {s : Nat} (h : s < 48 ∨ 57 < s) (h2 : s ≠ 45) : s ∉ TL.tl (wd n) := by
  by_cases h0 : 0 ≤ n
  · rw [tl_pos h0]
    exact TL.numL_free h
  · rw [tl_neg (by omega)]
    intro hm
    rcases List.mem_cons.mp hm with e | hm
    · exact h2 e
    · exact TL.numL_free h hm
theorem wd_int {n : Int} (h : In18 n) : intText? (wd n) = some n := by
  have hl := h.numL
  by_cases h0 : 0 ≤ n
  · have e := TL.int_num (n := n.natAbs) (by omega)
    have e2 : ((n.natAbs : Nat) : Int) = n := by omega
    rw [e2] at e
    exact e
  · have t := tl_neg (n := n) (by omega)
    have e := intText_neg (x := wd n) (cs := TL.numL n.natAbs) t (TL.numL_digits _) (TL.numL_ne _) (by rw [TL.len_tl, t, List.length_cons]; omega)
    rw [TL.numL_val] at e
    rw [e]
    congr 1
    omega
/-- the digits of the word -/
def dg (n : Int) : Str := ⟨(TL.numL n.natAbs).toArray⟩
theorem dash_tl : TL.tl (Str.ofString "-") = [45] := by decide +kernel
theorem beqD (a b : List Nat) : (a == b) = decide (a = b) := by
  by_cases h : a = b
  · rw [h, decide_eq_true rfl, beq_self_eq_true]
  · rw [decide_eq_false h, beq_false_of_ne h]
theorem rmdash (x : Str) : TL.tl (Txt.removeprefix x (Str.ofString "-")) = if (TL.tl x).take 1 = [45] then (TL.tl x).drop 1 else TL.tl x := by
  have hl : (Str.ofString "-").length = 1 := by decide +kernel
  unfold Txt.removeprefix
  have hs : Builtin.Str.subAt x (Str.ofString "-") 0 = decide ((TL.tl x).take 1 = [45]) := by
    rw [StrLaws.subAt_eq, hl, show (Str.ofString "-").cps.toList = [45] from dash_tl, List.drop_zero]
    exact beqD _ _
  by_cases h : (TL.tl x).take 1 = [45]
  · rw [hs, decide_eq_true h, if_pos rfl, if_pos h, hl]
    have h1 : 1 ≤ x.length := by
      rw [TL.len_tl]
      cases e : TL.tl x with
      | nil => rw [e] at h; cases h
      | cons a r => rw [List.length_cons]; omega
    unfold Txt.affix
    show TL.tl (if (x.length - 1 == x.length) = true then x else _) = _
    rw [if_neg (by rw [beq_iff_eq]; omega)]
    exact TL.tl_strSub_end x 1
  · rw [hs, decide_eq_false h, if_neg Bool.false_ne_true, if_neg h]
    rfl
theorem zero_tl : TL.tl (Str.ofString "0") = [48] := by decide +kernel
theorem starts0 (x : Str) : Txt.startswith x (Str.ofString "0") = decide ((TL.tl x).take 1 = [48]) := by
  have hl : (Str.ofString "0").length = 1 := by decide +kernel
  unfold Txt.startswith
  rw [StrLaws.subAt_eq, hl, show (Str.ofString "0").cps.toList = [48] from zero_tl, List.drop_zero]
  have e : ((TL.tl x).take 1 == [48]) = decide ((TL.tl x).take 1 = [48]) := beqD _ _
  rw [show List.take 1 x.cps.toList = (TL.tl x).take 1 from rfl, e]
  by_cases h : (TL.tl x).take 1 = [48]
  · have h1 : 1 ≤ x.length := by
      rw [TL.len_tl]
      cases e : TL.tl x with
      | nil => rw [e] at h; cases h
      | cons a r => rw [List.length_cons]; omega
    rw [decide_eq_true h, decide_eq_true (by omega : 0 + 1 ≤ x.length)]
    rfl
  · rw [decide_eq_false h, Bool.and_false]
theorem digit_ascii : ∀ c : Nat, c < 128 → Unicode.isDigit c = (decide (48 ≤ c) && decide (c ≤ 57)) := by decide +kernel
theorem numL_lead {n : Nat} (h : 0 < n) : (TL.numL n).take 1 ≠ [48] := by
  induction n using Nat.strongRecOn with
  | _ n ih =>
    by_cases h1 : n < 10
    · rw [TL.numL_lt h1]
      intro e
      have := List.cons.inj e
      omega
    · rw [TL.numL_step (by omega)]
      have h2 := ih (n / 10) (by omega) (by omega)
      have h3 := TL.numL_ne (n / 10)
      rw [List.take_append_of_le_length (by cases e : TL.numL (n / 10) with | nil => exact absurd e h3 | cons a r => rw [List.length_cons]; omega)]
      exact h2
/-- what is_integer tells of a word -/
def isIntW (z : Str) (m : Int) : Bool :=
  if (!(Txt.isascii (Txt.removeprefix z (Str.ofString "-")) && Txt.isdigit (Txt.removeprefix z (Str.ofString "-"))) || decide (((Txt.removeprefix z (Str.ofString "-")).length : Int) > m)) = true then false
  else (decide (z = Str.ofString "0") || !Txt.startswith (Txt.removeprefix z (Str.ofString "-")) (Str.ofString "0"))
theorem ascii_of {x : Str} (h : NumText.AllDigits (TL.tl x)) (hn : TL.tl x ≠ []) : Txt.isascii x = true ∧ Txt.isdigit x = true := by
  have e1 : x.cps.all (fun c => decide (c < 128)) = (TL.tl x).all (fun c => decide (c < 128)) := (Array.all_toList ..).symm
  have e2 : x.cps.all Unicode.isDigit = (TL.tl x).all Unicode.isDigit := (Array.all_toList ..).symm
  refine ⟨?_, ?_⟩
  · show x.cps.all (fun c => decide (c < 128)) = true
    rw [e1, List.all_eq_true]
    intro c hc
    have := h c hc
    exact decide_eq_true (by omega)
  · unfold Txt.isdigit
    rw [e2, Bool.and_eq_true]
    refine ⟨decide_eq_true (by rw [TL.len_tl]; exact List.length_pos_iff.mpr hn), ?_⟩
    rw [List.all_eq_true]
    intro c hc
    have h1 := h c hc
    rw [digit_ascii c (by omega), decide_eq_true h1.1, decide_eq_true h1.2]
    rfl
theorem wd_digits {n : Int} : TL.tl (Txt.removeprefix (wd n) (Str.ofString "-")) = TL.numL n.natAbs := by
  rw [rmdash]
  by_cases h0 : 0 ≤ n
  · rw [tl_pos h0, if_neg]
    intro e
    have h1 : 45 ∈ TL.numL n.natAbs := List.mem_of_mem_take (by rw [e]; exact List.mem_singleton_self 45)
    exact TL.numL_free (by omega) h1
  · rw [tl_neg (by omega), if_pos (by rfl)]
    rfl
theorem wd_zero : wd 0 = Str.ofString "0" := by decide +kernel
theorem wd_isInt {n m : Int} (h : In18 n) (hm : 18 ≤ m) : isIntW (wd n) m = true := by
  have hd := wd_digits (n := n)
  have hl := h.numL
  have ha := ascii_of (x := Txt.removeprefix (wd n) (Str.ofString "-")) (by rw [hd]; exact TL.numL_digits _) (by rw [hd]; exact TL.numL_ne _)
  unfold isIntW
  rw [ha.1, ha.2, decide_eq_false (by rw [TL.len_tl, hd]; omega)]
  show (decide (wd n = Str.ofString "0") || _) = true
  by_cases h0 : n = 0
  · rw [h0, decide_eq_true wd_zero]
    rfl
  · rw [starts0, hd, decide_eq_false (numL_lead (by omega))]
    exact Bool.or_true _
theorem wd_len {n : Int} (h : In18 n) : (wd n).length ≤ 19 := word_len h
/-! ### the lines and words of a text -/
theorem nl_tl : TL.tl (Str.ofString "\n") = [10] := by decide +kernel
theorem blank_tl : TL.tl (Str.ofString " ") = [32] := by decide +kernel
theorem joinL_free {s : Nat} {S : List Nat} (hs : s ∉ S) : ∀ {ps : List (List Nat)}, (∀ p ∈ ps, s ∉ p) → s ∉ TL.joinL S ps
  | [], _ => by show s ∉ ([] : List Nat); simp
  | [p], h => h p List.mem_cons_self
  | p :: q :: r, h => by
    have h1 := joinL_free hs (ps := q :: r) fun z hz => h z (List.mem_cons_of_mem _ hz)
    intro hm
    rcases List.mem_append.mp hm with hm | hm
    · exact h p List.mem_cons_self hm
    · rcases List.mem_append.mp hm with hm | hm
      · exact hs hm
      · exact h1 hm
theorem joined_free {ns : List Int} : (10 : Nat) ∉ TL.tl (Txt.join (Str.ofString " ") (words ns)) := by
  rw [TL.join_eq, TL.tl_join]
  refine joinL_free (by rw [blank_tl]; decide) fun p hp => ?_
  obtain ⟨z, hz, rfl⟩ := List.mem_map.mp hp
  obtain ⟨n, _, rfl⟩ := List.mem_map.mp hz
  exact wd_free (n := n) (by omega) (by omega)
theorem text_join (hd : Str) (ns : List Int) : textOf hd ns = Txt.join (Str.ofString "\n") [hd, Txt.join (Str.ofString " ") (words ns), Str.ofString ""] := by
  apply TL.ext_tl
  rw [TL.join_eq, TL.tl_join]
  unfold textOf
  rw [TL.tl_append, TL.tl_append, TL.tl_append]
  show _ = TL.tl hd ++ (TL.tl (Str.ofString "\n") ++ (TL.tl (Txt.join (Str.ofString " ") (words ns)) ++ (TL.tl (Str.ofString "\n") ++ [])))
  simp only [List.append_assoc, List.append_nil]
theorem text_split {hd : Str} {ns : List Int} (h : (10 : Nat) ∉ TL.tl hd) : Txt.split (textOf hd ns) (Str.ofString "\n") = [hd, Txt.join (Str.ofString " ") (words ns), Str.ofString ""] := by
  rw [text_join]
  refine TL.split_join (s := 10) (S := []) nl_tl (by decide +kernel) (by simp) fun p hp => ?_
  simp only [List.mem_cons, List.not_mem_nil, or_false] at hp
  rcases hp with rfl | rfl | rfl
  · exact h
  · exact joined_free
  · decide +kernel
theorem words_split {ns : List Int} (h : ns ≠ []) : Txt.split (Txt.join (Str.ofString " ") (words ns)) (Str.ofString " ") = words ns := by
  refine TL.split_join (s := 32) (S := []) blank_tl (by decide +kernel) (by unfold words; simpa using h) fun p hp => ?_
  obtain ⟨n, _, rfl⟩ := List.mem_map.mp hp
  exact wd_free (n := n) (by omega) (by omega)
theorem text_len {hd : Str} {ns : List Int} (h : ∀ n ∈ ns, In18 n) : (textOf hd ns).length ≤ hd.length + ns.length * 20 + 2 := by
  have h1 := joined_len h
  unfold textOf
  rw [Str.length_append, Str.length_append, Str.length_append, nl_len]
  omega
/-! ### methods of a class -/
structure Mt (K : PySem.W.Frag) (C : Addr) (x qual : Str) (st : Stmt) (ps : List Str) (f : Addr) (fd : FuncData) : Prop where
  F : Fun K x qual st f fd
  b : Binds K fd ps []
  m : Meth K C x f
/-! ### a Taker -/
structure Tk (K : PySem.W.Frag) (mg : Str → Option Value) (C : Addr) : Prop where
  cl : Cls K C
  nI : NoAttr K C "integers"
  nT : NoAttr K C "taken"
  mg : mg "Taker" = some (.ref C)
theorem kit : ¬ (("integers" : Str) = "taken") := by decide +kernel
/-- its attributes -/
def tf (l : Addr) (i : Int) : List (Str × V) := putF "taken" (.int i) (putF "integers" (.ref l) [])
theorem tf_eq (l : Addr) (i : Int) : tf l i = ([("integers", V.ref l), ("taken", V.int i)] : List (Str × V)) := by
  show (if ("integers" : Str) = "taken" then [(("integers" : Str), V.int i)] else (("integers" : Str), V.ref l) :: putF "taken" (V.int i) []) = ([("integers", V.ref l), ("taken", V.int i)] : List (Str × V))
  rw [if_neg kit]
  rfl
theorem tf_int (l : Addr) (i : Int) : (tf l i).lookup ("integers" : Str) = some (.ref l) := by
  unfold tf
  rw [lookup_putF, if_neg kit, lookup_putF, if_pos rfl]
theorem tf_tak (l : Addr) (i : Int) : (tf l i).lookup ("taken" : Str) = some (.int i) := by
  unfold tf
  rw [lookup_putF, if_pos rfl]
theorem tf_no (l : Addr) (i : Int) {m : Str} (h1 : ¬ m = "taken") (h2 : ¬ m = "integers") : (tf l i).lookup m = none := by
  unfold tf
  rw [lookup_putF, if_neg h1, lookup_putF, if_neg h2]
  rfl
theorem tf_put (l : Addr) (i j : Int) : putF "taken" (.int j) (tf l i) = tf l j := by
  rw [tf_eq, tf_eq]
  show (if ("integers" : Str) = "taken" then _ else (("integers" : Str), V.ref l) :: (if ("taken" : Str) = "taken" then [(("taken" : Str), V.int j)] else _)) = ([("integers", V.ref l), ("taken", V.int j)] : List (Str × V))
  rw [if_neg kit, if_pos rfl]
/-- a Taker at p, its list at l, with these integers left -/
def TkAt (C : Addr) (H : Hp) (p l : Addr) (rest : List Int) : Prop := ∃ (dx : Addr) (ns : List Int) (i : Nat), H p = some (.ins C dx (tf l (i : Int))) ∧ H l = some (.lst (ns.map V.int)) ∧ i ≤ ns.length ∧ ns.length ≤ 1000 ∧ ns.drop i = rest
theorem TkAt.keep {C : Addr} {H H' : Hp} {p l : Addr} {rest : List Int} (e : Same H H') (h : TkAt C H p l rest) : TkAt C H' p l rest := by
  obtain ⟨dx, ns, i, h1, h2, h3⟩ := h
  exact ⟨dx, ns, i, e _ _ h1, e _ _ h2, h3⟩
theorem TkAt.but {C o : Addr} {H H' : Hp} {p l : Addr} {rest : List Int} (e : But o H H') (hp : o ≠ p) (hl : o ≠ l) (h : TkAt C H p l rest) : TkAt C H' p l rest := by
  obtain ⟨dx, ns, i, h1, h2, h3⟩ := h
  exact ⟨dx, ns, i, e _ _ hp.symm h1, e _ _ hl.symm h2, h3⟩
theorem TkAt.len {C : Addr} {H : Hp} {p l : Addr} {rest : List Int} (h : TkAt C H p l rest) : rest.length ≤ 1000 := by
  obtain ⟨dx, ns, i, h1, h2, h3, h4, rfl⟩ := h
  rw [List.length_drop]
  omega
/-! ### what stands while an instance changes -/
theorem insTup {C dx : Addr} {fs : List (Str × V)} {K : PySem.W.Frag} {H H' : Hp} {o a : Addr} {ys : List V} (e : But o H H') (ho : H o = some (.ins C dx fs)) (h : SqT K H a ys) : SqT K H' a ys := by
  rcases h with (h | ⟨ob, h⟩) | h
  · exact .inl (.inl (e _ _ (ne_of h ho (by intro z; cases z)) h))
  · exact .inl (.inr ⟨ob, e _ _ (ne_of h ho (by intro z; cases z)) h⟩)
  · exact .inr h
section
variable {K : PySem.W.Frag} {H H' : Hp} {o : Addr} {C dx : Addr} {fs : List (Str × V)}
theorem TupI.ins {a ns} (e : But o H H') (ho : H o = some (.ins C dx fs)) (h : TupI K H a ns) : TupI K H' a ns := insTup e ho h
theorem DdAt.ins {a d} (e : But o H H') (ho : H o = some (.ins C dx fs)) (h : DdAt K H a d) : DdAt K H' a d := by
  obtain ⟨z, rest, h0, h1, h2⟩ := h
  refine ⟨z, rest, h0, insTup e ho h1, ?_⟩
  rcases h2 with ⟨h2, b, h3, h4⟩ | h2
  · exact .inl ⟨h2, b, h3, h4.ins e ho⟩
  · exact .inr h2
theorem EvAt.ins {a d} (e : But o H H') (ho : H o = some (.ins C dx fs)) (h : EvAt K H a d) : EvAt K H' a d := by
  obtain ⟨p, q, d, r, h1, h2, h3, h4, h5⟩ := h
  exact ⟨p, q, d, r, insTup e ho h1, h2.ins e ho, h3.ins e ho, h4.ins e ho, h5.ins e ho⟩
theorem RcAt.ins {a d} (e : But o H H') (ho : H o = some (.ins C dx fs)) (h : RcAt K H a d) : RcAt K H' a d := by
  obtain ⟨p, h1, h2⟩ := h
  exact ⟨p, insTup e ho h1, h2.ins e ho⟩
theorem RcAt.but {xs : List V} {a d} (e : But o H H') (ho : H o = some (.lst xs)) (h : RcAt K H a d) : RcAt K H' a d := by
  obtain ⟨p, h1, h2⟩ := h
  exact ⟨p, butTup e ho h1, h2.but e ho⟩
end
theorem inTk {C p l : Addr} {H : Hp} {rs : List Int} (h : TkAt C H p l rs) : ∃ dx i, H p = some (.ins C dx (tf l i)) := by
  obtain ⟨dx, _, i, h, _⟩ := h
  exact ⟨dx, _, h⟩
theorem lsTk {C p l : Addr} {H : Hp} {rs : List Int} (h : TkAt C H p l rs) : ∃ xs, H l = some (.lst xs) := by
  obtain ⟨dx, _, i, _, h, _⟩ := h
  exact ⟨_, h⟩
theorem evs_len_le : ∀ rs : List Ev, rs.length ≤ (rs.flatMap numE).length
  | [] => Nat.zero_le _
  | a :: r => by
    have ih := evs_len_le r
    rw [List.flatMap_cons, List.length_append, List.length_cons]
    have : 1 ≤ (numE a).length := by unfold numE; simp only [List.length_append, List.length_cons]; omega
    omega
theorem rows_len_le : ∀ rs : List (List Ev), rs.length ≤ (rs.flatMap numEs).length
  | [] => Nat.zero_le _
  | a :: r => by
    have ih := rows_len_le r
    rw [List.flatMap_cons, List.length_append, List.length_cons]
    have : 1 ≤ (numEs a).length := by unfold numEs; rw [List.length_cons]; omega
    omega
end Vs

namespace Vs
open PySem PySem.Spec PyProof.Rows L2
/-! ### == and != of data, whatever its texts -/
section
variable {X : Cx}
def rEqP (K : PySem.W.Frag) : R2 := fun x y H Q => ∃ d e, Dp K H x d ∧ Dp K H y e ∧ d.plain = true ∧ e.plain = true ∧ d.depth ≤ 64 ∧ Q (.bl (PyData.eqv d e)) H
def rNeP (K : PySem.W.Frag) : R2 := fun x y H Q => ∃ d e, Dp K H x d ∧ Dp K H y e ∧ d.plain = true ∧ e.plain = true ∧ d.depth ≤ 64 ∧ Q (.bl (!PyData.eqv d e)) H
theorem op_eqP (hu : X.A.units + 64 < cLine) : OpR X (compareOp .Eq) (rEqP X.K) := by
  intro pins s σ H x y v u Q I rx ry h
  obtain ⟨d, e, hd, he, sd, se, hz, q⟩ := h
  obtain ⟨as, r1⟩ := Dp.reads I d x v hd rx
  obtain ⟨bs, r2⟩ := Dp.reads I e y u he ry
  exact SeqAt.eq_plain r1 r2 sd se (Nat.lt_of_le_of_lt (Nat.add_le_add_left (Nat.le_trans (Nat.min_le_left _ _) hz) _) hu) ⟨.bl _, H, I, rfl, q⟩
theorem op_neP (hu : X.A.units + 64 < cLine) : OpR X (compareOp .NotEq) (rNeP X.K) := by
  intro pins s σ H x y v u Q I rx ry h
  obtain ⟨d, e, hd, he, sd, se, hz, q⟩ := h
  obtain ⟨as, r1⟩ := Dp.reads I d x v hd rx
  obtain ⟨bs, r2⟩ := Dp.reads I e y u he ry
  exact SeqAt.ne_plain r1 r2 sd se (Nat.lt_of_le_of_lt (Nat.add_le_add_left (Nat.le_trans (Nat.min_le_left _ _) hz) _) hu) ⟨.bl _, H, I, rfl, q⟩
end
theorem strs_all {K : PySem.W.Frag} {H : Hp} : ∀ ss : List Str, DpAll K H (ss.map V.str) (ss.map PyData.str)
  | [] => .nil
  | s :: r => .cons (.str s) (strs_all r)
theorem strs_dp {K : PySem.W.Frag} {H : Hp} {a : Addr} {ss : List Str} (h : SqL K H a (ss.map V.str)) : Dp K H (.ref a) (.list (ss.map PyData.str)) := .lst h (strs_all ss)
theorem strs_plain : ∀ ss : List Str, PyData.plainAll (ss.map PyData.str) = true
  | [] => rfl
  | s :: r => by
    show (true && PyData.plainAll (r.map PyData.str)) = true
    rw [strs_plain r]
    rfl
theorem strs_depth : ∀ ss : List Str, PyData.depthAll (ss.map PyData.str) ≤ 1
  | [] => Nat.zero_le _
  | s :: r => by
    show max (PyData.depth (PyData.str s)) (PyData.depthAll (r.map PyData.str)) ≤ 1
    have := strs_depth r
    have h : PyData.depth (PyData.str s) ≤ 1 := by simp [PyData.depth]
    omega
theorem strl_plain (ss : List Str) : (PyData.list (ss.map PyData.str)).plain = true := strs_plain ss
theorem strl_depth (ss : List Str) : (PyData.list (ss.map PyData.str)).depth ≤ 64 := by
  have := strs_depth ss
  simp only [PyData.depth]
  omega
end Vs

namespace Vs
open PySem PySem.Spec PyProof.Rows L2
/-! ### data, and when two of them are the same to the sign -/
inductive DV where
  | bl (b : Bool)
  | int (i : Int)
  | str (z : Str)
  | tup (xs : List DV)
  | lst (xs : List DV)
mutual
def sameV : DV → DV → Bool
  | .bl a, .bl b => a == b
  | .int a, .int b => a == b
  | .str a, .str b => a == b
  | .tup xs, .tup ys => sameVL xs ys
  | .lst xs, .lst ys => sameVL xs ys
  | .bl _, .int _ | .bl _, .str _ | .bl _, .tup _ | .bl _, .lst _ => false
  | .int _, .bl _ | .int _, .str _ | .int _, .tup _ | .int _, .lst _ => false
  | .str _, .bl _ | .str _, .int _ | .str _, .tup _ | .str _, .lst _ => false
  | .tup _, .bl _ | .tup _, .int _ | .tup _, .str _ | .tup _, .lst _ => false
  | .lst _, .bl _ | .lst _, .int _ | .lst _, .str _ | .lst _, .tup _ => false
def sameVL : List DV → List DV → Bool
  | [], [] => true
  | x :: xs, y :: ys => sameV x y && sameVL xs ys
  | [], _ :: _ => false
  | _ :: _, [] => false
end
mutual
def depV : DV → Nat
  | .tup xs | .lst xs => depVL xs + 1
  | .bl _ | .int _ | .str _ => 1
def depVL : List DV → Nat
  | [] => 0
  | x :: xs => max (depV x) (depVL xs)
end
mutual
def Den (K : PySem.W.Frag) (H : Hp) : DV → V → Prop
  | .bl b, v => v = .bl b
  | .int i, v => v = .int i
  | .str z, v => v = .str z
  | .tup xs, v => ∃ a vs, v = .ref a ∧ SqT K H a vs ∧ vs.length ≤ 1000 ∧ DenL K H xs vs
  | .lst xs, v => ∃ a vs, v = .ref a ∧ SqL K H a vs ∧ vs.length ≤ 1000 ∧ DenL K H xs vs
def DenL (K : PySem.W.Frag) (H : Hp) : List DV → List V → Prop
  | [], vs => vs = []
  | d :: ds, vs => ∃ v r, vs = v :: r ∧ Den K H d v ∧ DenL K H ds r
end
mutual
theorem sameV_eq : ∀ d e : DV, sameV d e = true → d = e
  | .bl a, .bl b, h => by simp [sameV] at h; rw [h]
  | .int a, .int b, h => by simp [sameV] at h; rw [h]
  | .str a, .str b, h => by simp [sameV] at h; rw [h]
  | .tup xs, .tup ys, h => by rw [sameVL_eq xs ys (by simpa [sameV] using h)]
  | .lst xs, .lst ys, h => by rw [sameVL_eq xs ys (by simpa [sameV] using h)]
  | .bl _, .int _, h | .bl _, .str _, h | .bl _, .tup _, h | .bl _, .lst _, h => by simp [sameV] at h
  | .int _, .bl _, h | .int _, .str _, h | .int _, .tup _, h | .int _, .lst _, h => by simp [sameV] at h
  | .str _, .bl _, h | .str _, .int _, h | .str _, .tup _, h | .str _, .lst _, h => by simp [sameV] at h
  | .tup _, .bl _, h | .tup _, .int _, h | .tup _, .str _, h | .tup _, .lst _, h => by simp [sameV] at h
  | .lst _, .bl _, h | .lst _, .int _, h | .lst _, .str _, h | .lst _, .tup _, h => by simp [sameV] at h
theorem sameVL_eq : ∀ d e : List DV, sameVL d e = true → d = e
  | [], [], _ => rfl
  | x :: xs, y :: ys, h => by
    have h' : sameV x y = true ∧ sameVL xs ys = true := by simpa [sameVL] using h
    rw [sameV_eq x y h'.1, sameVL_eq xs ys h'.2]
  | [], _ :: _, h => by simp [sameVL] at h
  | _ :: _, [], h => by simp [sameVL] at h
end
mutual
theorem sameV_refl : ∀ d : DV, sameV d d = true
  | .bl a => by simp [sameV]
  | .int a => by simp [sameV]
  | .str a => by simp [sameV]
  | .tup xs => by rw [sameV]; exact sameVL_refl xs
  | .lst xs => by rw [sameV]; exact sameVL_refl xs
theorem sameVL_refl : ∀ d : List DV, sameVL d d = true
  | [] => by simp [sameVL]
  | x :: xs => by rw [sameVL, sameV_refl x, sameVL_refl xs]; rfl
end
theorem sameVL_at : ∀ {xs ys : List DV}, xs.length = ys.length → (∀ (i : Nat) x y, xs[i]? = some x → ys[i]? = some y → sameV x y = true) → sameVL xs ys = true
  | [], [], _, _ => by simp [sameVL]
  | x :: xs, y :: ys, hl, h => by
    rw [sameVL, h 0 x y rfl rfl, sameVL_at (Nat.succ.inj hl) fun i u v h1 h2 => h (i + 1) u v h1 h2]
    rfl
theorem sameVL_len : ∀ {xs ys : List DV}, xs.length ≠ ys.length → sameVL xs ys = false
  | [], [], h => absurd rfl h
  | x :: xs, y :: ys, h => by
    rw [sameVL, sameVL_len fun e => h (by rw [List.length_cons, List.length_cons, e]), Bool.and_false]
  | [], _ :: _, _ => by simp [sameVL]
  | _ :: _, [], _ => by simp [sameVL]
theorem sameVL_no : ∀ {xs ys : List DV} {i : Nat} {x y : DV}, xs[i]? = some x → ys[i]? = some y → sameV x y = false → sameVL xs ys = false
  | x :: xs, y :: ys, 0, _, _, h1, h2, h => by
    cases h1
    cases h2
    rw [sameVL, h]
    rfl
  | x :: xs, y :: ys, i + 1, u, v, h1, h2, h => by
    rw [sameVL, sameVL_no (i := i) h1 h2 h, Bool.and_false]
  | [], _, _, _, _, h1, _, _ => by simp at h1
  | _ :: _, [], _, _, _, _, h2, _ => by simp at h2
theorem depVL_at : ∀ {xs : List DV} {i : Nat} {x : DV}, xs[i]? = some x → depV x ≤ depVL xs
  | x :: xs, 0, _, h => by cases h; rw [depVL]; omega
  | x :: xs, i + 1, u, h => by
    have := depVL_at (xs := xs) (i := i) h
    rw [depVL]
    omega
  | [], _, _, h => by simp at h
section
variable {K : PySem.W.Frag} {H H' : Hp}
theorem DenL.len : ∀ {ds : List DV} {vs : List V}, DenL K H ds vs → vs.length = ds.length
  | [], _, h => by rw [DenL] at h; rw [h]; rfl
  | d :: ds, _, h => by
    rw [DenL] at h
    obtain ⟨v, r, rfl, _, h2⟩ := h
    rw [List.length_cons, List.length_cons, DenL.len h2]
theorem DenL.get : ∀ {ds : List DV} {vs : List V} {i : Nat} {d : DV}, DenL K H ds vs → ds[i]? = some d → ∃ v, vs[i]? = some v ∧ Den K H d v
  | d :: ds, _, 0, _, h, hi => by
    rw [DenL] at h
    obtain ⟨v, r, rfl, h1, _⟩ := h
    cases hi
    exact ⟨v, rfl, h1⟩
  | d :: ds, _, i + 1, e, h, hi => by
    rw [DenL] at h
    obtain ⟨v, r, rfl, _, h2⟩ := h
    exact DenL.get (i := i) h2 hi
  | [], _, _, _, _, hi => by simp at hi
theorem DenL.ints : ∀ {ns : List Int}, DenL K H (ns.map DV.int) (ns.map V.int)
  | [] => by rw [List.map_nil, DenL]; rfl
  | n :: r => by
    rw [List.map_cons, DenL]
    exact ⟨_, _, rfl, by rw [Den], DenL.ints⟩
theorem DenL.refs {α : Type} {P : Addr → α → Prop} {f : α → DV} (h : ∀ a x, P a x → Den K H (f x) (.ref a)) : ∀ {as : List Addr} {xs : List α}, Each P as xs → DenL K H (xs.map f) (as.map V.ref)
  | [], [], _ => by rw [List.map_nil, DenL]; rfl
  | a :: as, x :: xs, e => by
    rw [List.map_cons, DenL]
    exact ⟨_, _, rfl, h a x (e.2 0 a x rfl rfl), DenL.refs h ⟨Nat.succ.inj e.1, fun i b y h1 h2 => e.2 (i + 1) b y h1 h2⟩⟩
  | [], _ :: _, e => absurd e.1 (by simp)
  | _ :: _, [], e => absurd e.1 (by simp)
/-- the name of its type -/
def tyN : DV → String
  | .bl _ => "bool"
  | .int _ => "int"
  | .str _ => "str"
  | .tup _ => "tuple"
  | .lst _ => "list"
theorem Den.ty {d : DV} {v : V} (h : Den K H d v) : TyX K H v (.type (tyN d)) := by
  cases d with
  | bl b => rw [Den] at h; rw [h]; exact .base (.bl _)
  | int b => rw [Den] at h; rw [h]; exact .base (.int _)
  | str b => rw [Den] at h; rw [h]; exact .base (.str _)
  | tup xs => rw [Den] at h; obtain ⟨a, vs, rfl, h1, _⟩ := h; exact tyT h1
  | lst xs => rw [Den] at h; obtain ⟨a, vs, rfl, h1, _⟩ := h; exact tyL h1
theorem Den.int_ {i : Int} : Den K H (.int i) (.int i) := by rw [Den]
theorem Den.bl_ {i : Bool} : Den K H (.bl i) (.bl i) := by rw [Den]
theorem Den.str_ {i : Str} : Den K H (.str i) (.str i) := by rw [Den]
theorem Den.tup_ {a : Addr} {vs : List V} {ds : List DV} (h : SqT K H a vs) (hl : vs.length ≤ 1000) (e : DenL K H ds vs) : Den K H (.tup ds) (.ref a) := by rw [Den]; exact ⟨a, vs, rfl, h, hl, e⟩
theorem DenL.nil_ : DenL K H [] [] := by rw [DenL]
theorem DenL.cons_ {d : DV} {ds : List DV} {v : V} {vs : List V} (h : Den K H d v) (t : DenL K H ds vs) : DenL K H (d :: ds) (v :: vs) := by rw [DenL]; exact ⟨_, _, rfl, h, t⟩
/-! ### a letter as data -/
def dvI (ns : List Int) : DV := .tup (ns.map DV.int)
def dvD (d : Dd) : DV := .tup (.str (deedNames.getD d.place Str.empty) :: (if d.place = 8 then [dvI d.nums] else d.nums.map DV.int))
def dvE (e : Ev) : DV := .tup [.bl e.asleep, dvI e.shown, dvI e.after, dvD e.deed, dvI e.knows]
def dvR (r : Rc) : DV := .tup [.int r.dev, .int r.num, dvE r.ev]
def dvL (l : Lt) : DV := .tup [.int l.s, .int l.r, .int l.k, .int l.n, .tup (l.recs.map dvR)]
theorem denI {a ns} (h : TupI K H a ns) (hl : ns.length ≤ 1000) : Den K H (dvI ns) (.ref a) := Den.tup_ h (by rw [List.length_map]; exact hl) DenL.ints
theorem denD {a d} (h : DdAt K H a d) (hk : d.Ok) : Den K H (dvD d) (.ref a) := by
  have hl := hk.len
  obtain ⟨z, r, e, t, q⟩ := h
  have ez : deedNames.getD d.place Str.empty = z := by rw [List.getD_eq_getElem?_getD, e]; rfl
  unfold dvD
  rw [ez]
  rcases q with ⟨p8, b, rfl, h2⟩ | ⟨n8, rfl⟩
  · rw [if_pos p8]
    exact Den.tup_ t (by show 2 ≤ 1000; decide) (DenL.cons_ Den.str_ (DenL.cons_ (denI h2 (by omega)) DenL.nil_))
  · rw [if_neg n8]
    exact Den.tup_ t (by rw [List.length_cons, List.length_map]; omega) (DenL.cons_ Den.str_ DenL.ints)
theorem denE {a e} (h : EvAt K H a e) (hk : e.Ok) : Den K H (dvE e) (.ref a) := by
  have k1 := hk.s1; have k2 := hk.s2; have k3 := hk.s3
  obtain ⟨p, q, d, r, t, f1, f2, f3, f4⟩ := h
  exact Den.tup_ t (by show 5 ≤ 1000; decide) (DenL.cons_ Den.bl_ (DenL.cons_ (denI f1 (by omega)) (DenL.cons_ (denI f2 (by omega)) (DenL.cons_ (denD f3 hk.d) (DenL.cons_ (denI f4 (by omega)) DenL.nil_)))))
theorem denR {a r} (h : RcAt K H a r) (hk : r.Ok) : Den K H (dvR r) (.ref a) := by
  obtain ⟨e, t, f⟩ := h
  exact Den.tup_ t (by show 3 ≤ 1000; decide) (DenL.cons_ Den.int_ (DenL.cons_ Den.int_ (DenL.cons_ (denE f hk.e) DenL.nil_)))
theorem denL {a l} (h : LtAt K H a l) (hk : l.Ok) : Den K H (dvL l) (.ref a) := by
  have hl := hk.len
  obtain ⟨b, as, t, f, g⟩ := h
  refine Den.tup_ t (by show 5 ≤ 1000; decide) (DenL.cons_ Den.int_ (DenL.cons_ Den.int_ (DenL.cons_ Den.int_ (DenL.cons_ Den.int_ (DenL.cons_ (Den.tup_ f (by rw [List.length_map, g.1]; omega) ?_) DenL.nil_)))))
  exact DenL.refs (P := fun a r => RcAt K H a r ∧ r.Ok) (fun a r h => denR h.1 h.2) ⟨g.1, fun i b y h1 h2 => ⟨g.2 i b y h1 h2, hk.rs y (List.mem_of_getElem? h2)⟩⟩
end
theorem int_inj {as bs : List Int} (h : as.map DV.int = bs.map DV.int) : as = bs := by
  induction as generalizing bs with
  | nil =>
    cases bs with
    | nil => rfl
    | cons b r => simp at h
  | cons a r ih =>
    cases bs with
    | nil => simp at h
    | cons b s =>
      rw [List.map_cons, List.map_cons] at h
      injection h with h1 h2
      injection h1 with h1
      rw [h1, ih h2]
theorem dvI_inj {as bs : List Int} (h : dvI as = dvI bs) : as = bs := by
  unfold dvI at h
  injection h with h
  exact int_inj h
theorem dvD_inj {a b : Dd} (ha : a.place < 9) (hb : b.place < 9) (h : dvD a = dvD b) : a = b := by
  unfold dvD at h
  injection h with h
  injection h with h1 h2
  injection h1 with h1
  have e1 : deedNames[a.place]? = some (deedNames.getD a.place Str.empty) := by rw [List.getD_eq_getElem?_getD, List.getElem?_eq_getElem (by rw [dn_len]; exact ha)]; rfl
  have e2 : deedNames[b.place]? = some (deedNames.getD b.place Str.empty) := by rw [List.getD_eq_getElem?_getD, List.getElem?_eq_getElem (by rw [dn_len]; exact hb)]; rfl
  rw [h1] at e1
  have hp := nd_ix dn_nodup e1 e2
  have hn : a.nums = b.nums := by
    by_cases h8 : b.place = 8
    · rw [if_pos (hp.trans h8), if_pos h8] at h2
      injection h2 with h2
      exact dvI_inj h2
    · rw [if_neg (fun e => h8 (hp ▸ e)), if_neg h8] at h2
      exact int_inj h2
  cases a; cases b
  simp only at hp hn
  rw [hp, hn]
theorem dvE_inj {a b : Ev} (ha : a.Ok) (hb : b.Ok) (h : dvE a = dvE b) : a = b := by
  unfold dvE at h
  injection h with h
  injection h with h1 h
  injection h with h2 h
  injection h with h3 h
  injection h with h4 h
  injection h with h5 h
  injection h1 with h1
  have e2 := dvI_inj h2
  have e3 := dvI_inj h3
  have e4 := dvD_inj ha.d.pl hb.d.pl h4
  have e5 := dvI_inj h5
  cases a; cases b
  simp only at h1 e2 e3 e4 e5
  rw [h1, e2, e3, e4, e5]
theorem dvR_inj {a b : Rc} (ha : a.Ok) (hb : b.Ok) (h : dvR a = dvR b) : a = b := by
  unfold dvR at h
  injection h with h
  injection h with h1 h
  injection h with h2 h
  injection h with h3 h
  injection h1 with h1
  injection h2 with h2
  have e3 := dvE_inj ha.e hb.e h3
  cases a; cases b
  simp only at h1 h2 e3
  rw [h1, h2, e3]
theorem recs_inj : ∀ {as bs : List Rc}, (∀ r ∈ as, r.Ok) → (∀ r ∈ bs, r.Ok) → as.map dvR = bs.map dvR → as = bs
  | [], [], _, _, _ => rfl
  | [], _ :: _, _, _, h => by simp at h
  | _ :: _, [], _, _, h => by simp at h
  | a :: as, b :: bs, ha, hb, h => by
    rw [List.map_cons, List.map_cons] at h
    injection h with h1 h2
    rw [dvR_inj (ha a List.mem_cons_self) (hb b List.mem_cons_self) h1, recs_inj (fun r hr => ha r (List.mem_cons_of_mem _ hr)) (fun r hr => hb r (List.mem_cons_of_mem _ hr)) h2]
theorem dvL_inj {a b : Lt} (ha : a.Ok) (hb : b.Ok) (h : dvL a = dvL b) : a = b := by
  unfold dvL at h
  injection h with h
  injection h with h1 h
  injection h with h2 h
  injection h with h3 h
  injection h with h4 h
  injection h with h5 h
  injection h1 with h1
  injection h2 with h2
  injection h3 with h3
  injection h4 with h4
  injection h5 with h5
  have e5 := recs_inj ha.rs hb.rs h5
  cases a; cases b
  simp only at h1 h2 h3 h4 e5
  rw [h1, h2, h3, h4, e5]
/-! ### the integers tell the letter -/
theorem numSeq_inj {as bs r s : List Int} (h : numSeq as ++ r = numSeq bs ++ s) : as = bs ∧ r = s := by
  unfold numSeq at h
  rw [List.cons_append, List.cons_append] at h
  injection h with h1 h2
  exact List.append_inj h2 (by omega)
theorem numD_inj {a b : Dd} {r s : List Int} (ha : a.Ok) (hb : b.Ok) (h : numD a ++ r = numD b ++ s) : a = b ∧ r = s := by
  unfold numD at h
  rw [List.cons_append, List.cons_append] at h
  injection h with h1 h2
  have hp : a.place = b.place := by omega
  have key : a.nums = b.nums ∧ r = s := by
    by_cases h8 : b.place = 8
    · rw [if_pos (hp.trans h8), if_pos h8] at h2
      exact numSeq_inj h2
    · rw [if_neg (fun e => h8 (hp ▸ e)), if_neg h8] at h2
      exact List.append_inj h2 (by rw [ha.ar (fun e => h8 (hp ▸ e)), hb.ar h8, hp])
  refine ⟨?_, key.2⟩
  cases a; cases b
  simp only at hp key
  rw [hp, key.1]
theorem b2n_inj {a b : Bool} (h : b2n a = b2n b) : a = b := by
  cases a <;> cases b <;> first | rfl | (exact absurd h (by decide))
theorem numE_app' (e : Ev) (rest : List Int) : numE e ++ rest = b2n e.asleep :: (numSeq e.shown ++ (numSeq e.after ++ (numD e.deed ++ (numSeq e.knows ++ rest)))) := by
  unfold numE
  simp only [List.append_assoc]
  rfl
theorem numE_inj {a b : Ev} {r s : List Int} (ha : a.Ok) (hb : b.Ok) (h : numE a ++ r = numE b ++ s) : a = b ∧ r = s := by
  rw [numE_app', numE_app'] at h
  injection h with h1 h
  obtain ⟨h2, h⟩ := numSeq_inj h
  obtain ⟨h3, h⟩ := numSeq_inj h
  obtain ⟨h4, h⟩ := numD_inj ha.d hb.d h
  obtain ⟨h5, h⟩ := numSeq_inj h
  have e1 := b2n_inj h1
  refine ⟨?_, h⟩
  cases a; cases b
  simp only at e1 h2 h3 h4 h5
  rw [e1, h2, h3, h4, h5]
theorem numR_inj {a b : Rc} {r s : List Int} (ha : a.Ok) (hb : b.Ok) (h : numR a ++ r = numR b ++ s) : a = b ∧ r = s := by
  have h' : a.dev :: a.num :: (numE a.ev ++ r) = b.dev :: b.num :: (numE b.ev ++ s) := h
  injection h' with h1 h'
  injection h' with h2 h'
  obtain ⟨h3, h⟩ := numE_inj ha.e hb.e h'
  refine ⟨?_, h⟩
  cases a; cases b
  simp only at h1 h2 h3
  rw [h1, h2, h3]
theorem numRs_inj : ∀ {as bs : List Rc}, (∀ r ∈ as, r.Ok) → (∀ r ∈ bs, r.Ok) → as.length = bs.length → as.flatMap numR = bs.flatMap numR → as = bs
  | [], [], _, _, _, _ => rfl
  | [], _ :: _, _, _, h, _ => by simp at h
  | _ :: _, [], _, _, h, _ => by simp at h
  | a :: as, b :: bs, ha, hb, hl, h => by
    rw [List.flatMap_cons, List.flatMap_cons] at h
    obtain ⟨h1, h2⟩ := numR_inj (ha a List.mem_cons_self) (hb b List.mem_cons_self) h
    rw [h1, numRs_inj (fun r hr => ha r (List.mem_cons_of_mem _ hr)) (fun r hr => hb r (List.mem_cons_of_mem _ hr)) (Nat.succ.inj hl) h2]
theorem numL_inj {a b : Lt} (ha : a.Ok) (hb : b.Ok) (h : numL a = numL b) : a = b := by
  have h' : a.s :: a.r :: a.k :: a.n :: (a.recs.length : Int) :: a.recs.flatMap numR = b.s :: b.r :: b.k :: b.n :: (b.recs.length : Int) :: b.recs.flatMap numR := h
  injection h' with h1 h'
  injection h' with h2 h'
  injection h' with h3 h'
  injection h' with h4 h'
  injection h' with h5 h'
  have e6 := numRs_inj ha.rs hb.rs (by omega) h'
  cases a; cases b
  simp only at h1 h2 h3 h4 e6
  rw [h1, h2, h3, h4, e6]
theorem words_inj : ∀ {as bs : List Int}, (∀ n ∈ as, In18 n) → (∀ n ∈ bs, In18 n) → words as = words bs → as = bs
  | [], [], _, _, _ => rfl
  | [], _ :: _, _, _, h => by simp [words] at h
  | _ :: _, [], _, _, h => by simp [words] at h
  | a :: as, b :: bs, ha, hb, h => by
    unfold words at h
    rw [List.map_cons, List.map_cons] at h
    injection h with h1 h2
    have e1 := wd_int (ha a List.mem_cons_self)
    have e2 := wd_int (hb b List.mem_cons_self)
    have h1 : wd a = wd b := h1
    rw [h1, e2] at e1
    rw [Option.some.inj e1, words_inj (fun r hr => ha r (List.mem_cons_of_mem _ hr)) (fun r hr => hb r (List.mem_cons_of_mem _ hr)) h2]
theorem text_inj {hd : Str} {as bs : List Int} (hf : (10 : Nat) ∉ TL.tl hd) (ha : ∀ n ∈ as, In18 n) (hb : ∀ n ∈ bs, In18 n) (na : as ≠ []) (nb : bs ≠ []) (h : textOf hd as = textOf hd bs) : as = bs := by
  have e1 := text_split (ns := as) hf
  have e2 := text_split (ns := bs) hf
  rw [h, e2] at e1
  injection e1 with _ e1
  injection e1 with e1 _
  have w1 := words_split na
  have w2 := words_split nb
  rw [← e1, w2] at w1
  exact (words_inj hb ha w1).symm
theorem letter_text_iff {a b : Lt} (ha : a.Ok) (hb : b.Ok) : decide (V.str (textOf "whensure letter" (numL a)) = V.str (textOf "whensure letter" (numL b))) = sameV (dvL a) (dvL b) := by
  by_cases h : a = b
  · rw [h, sameV_refl, decide_eq_true rfl]
  · have h1 : sameV (dvL a) (dvL b) = false := by
      cases e : sameV (dvL a) (dvL b) with
      | false => rfl
      | true => exact absurd (dvL_inj ha hb (sameV_eq _ _ e)) h
    rw [h1]
    refine decide_eq_false fun e => h ?_
    injection e with e
    exact numL_inj ha hb (text_inj (by decide +kernel) (numL_in ha) (numL_in hb) (by unfold numL; simp) (by unfold numL; simp) e)

theorem ifIntT {a b : Int} {A B : Prop} (h : a = b) (x : A) : if decide (V.int a = V.int b) = true then A else B := by
  rw [decide_eq_true (show V.int a = V.int b by rw [h])]
  exact iteT x
theorem ifIntF {a b : Int} {A B : Prop} (h : a ≠ b) (x : B) : if decide (V.int a = V.int b) = true then A else B := by
  rw [decide_eq_false (show ¬ V.int a = V.int b from fun e => h (by injection e))]
  exact iteF x
theorem depVL_le {n : Nat} : ∀ {xs : List DV}, (∀ x ∈ xs, depV x ≤ n) → depVL xs ≤ n
  | [], _ => by rw [depVL]; exact Nat.zero_le _
  | x :: xs, h => by
    have h1 := h x List.mem_cons_self
    have h2 := depVL_le (xs := xs) fun y hy => h y (List.mem_cons_of_mem _ hy)
    rw [depVL]
    omega
theorem dep_ints (ns : List Int) : depVL (ns.map DV.int) ≤ 1 := depVL_le fun x hx => by
  obtain ⟨n, _, rfl⟩ := List.mem_map.mp hx
  rw [depV]
  omega
theorem dep_I (ns : List Int) : depV (dvI ns) ≤ 2 := by
  have := dep_ints ns
  unfold dvI
  rw [depV]
  omega
theorem dep_D (d : Dd) : depV (dvD d) ≤ 3 := by
  unfold dvD
  rw [depV, depVL, depV]
  split
  · have := dep_I d.nums
    rw [depVL, depVL]
    omega
  · have := dep_ints d.nums
    omega
theorem dep_E (e : Ev) : depV (dvE e) ≤ 4 := by
  have h1 := dep_I e.shown; have h2 := dep_I e.after; have h3 := dep_D e.deed; have h4 := dep_I e.knows
  unfold dvE
  rw [depV, depVL, depVL, depVL, depVL, depVL, depVL, depV]
  omega
theorem dep_R (r : Rc) : depV (dvR r) ≤ 5 := by
  have h1 := dep_E r.ev
  unfold dvR
  rw [depV, depVL, depVL, depVL, depVL, depV, depV]
  omega
theorem dep_L (l : Lt) : depV (dvL l) ≤ 7 := by
  have h1 : depVL (l.recs.map dvR) ≤ 5 := depVL_le fun x hx => by
    obtain ⟨r, _, rfl⟩ := List.mem_map.mp hx
    exact dep_R r
  unfold dvL
  rw [depV, depVL, depVL, depVL, depVL, depVL, depVL, depV, depV, depV, depV, depV]
  omega
theorem kitAll : ∀ t ∈ ["bool", "int", "str", "tuple", "list"], kitB t "bool" = some (t == "bool") ∧ kitB t "int" = some (t == "int" || t == "bool") ∧ kitB t "str" = some (t == "str") ∧ kitB t "tuple" = some (t == "tuple") ∧ kitB t "list" = some (t == "list") := by decide +kernel
theorem tyN_mem (d : DV) : tyN d ∈ ["bool", "int", "str", "tuple", "list"] := by cases d <;> simp [tyN]
theorem kB (d : DV) : kitB (tyN d) "bool" = some (tyN d == "bool") := (kitAll _ (tyN_mem d)).1
theorem kI (d : DV) : kitB (tyN d) "int" = some (tyN d == "int" || tyN d == "bool") := (kitAll _ (tyN_mem d)).2.1
theorem kS (d : DV) : kitB (tyN d) "str" = some (tyN d == "str") := (kitAll _ (tyN_mem d)).2.2.1
theorem kT (d : DV) : kitB (tyN d) "tuple" = some (tyN d == "tuple") := (kitAll _ (tyN_mem d)).2.2.2.1
theorem kL (d : DV) : kitB (tyN d) "list" = some (tyN d == "list") := (kitAll _ (tyN_mem d)).2.2.2.2
theorem Each.take {α : Type} {P : Addr → α → Prop} {as xs} (h : Each P as xs) (n : Nat) : Each P (as.take n) (xs.take n) := by
  refine ⟨by rw [List.length_take, List.length_take, h.1], fun i a x h1 h2 => ?_⟩
  have hi : i < n := by
    have := (List.getElem?_eq_some_iff.mp h1).1
    rw [List.length_take] at this
    omega
  rw [List.getElem?_take_of_lt hi] at h1 h2
  exact h.2 i a x h1 h2
theorem Each.drop {α : Type} {P : Addr → α → Prop} {as xs} (h : Each P as xs) (n : Nat) : Each P (as.drop n) (xs.drop n) := by
  refine ⟨by rw [List.length_drop, List.length_drop, h.1], fun i a x h1 h2 => ?_⟩
  rw [List.getElem?_drop] at h1 h2
  exact h.2 _ a x h1 h2
theorem Each.append {α : Type} {P : Addr → α → Prop} {as xs bs ys} (h : Each P as xs) (h' : Each P bs ys) : Each P (as ++ bs) (xs ++ ys) := by
  refine ⟨by rw [List.length_append, List.length_append, h.1, h'.1], fun i a x h1 h2 => ?_⟩
  by_cases hi : i < as.length
  · rw [List.getElem?_append_left hi] at h1
    rw [List.getElem?_append_left (by rw [← h.1]; exact hi)] at h2
    exact h.2 i a x h1 h2
  · rw [List.getElem?_append_right (by omega)] at h1
    rw [List.getElem?_append_right (by rw [← h.1]; omega), ← h.1] at h2
    exact h'.2 _ a x h1 h2
theorem Each.set {α : Type} {P : Addr → α → Prop} {as xs} (h : Each P as xs) {j : Nat} {a : Addr} {x : α} (p : P a x) : Each P (as.set j a) (xs.set j x) := by
  refine ⟨by rw [List.length_set, List.length_set, h.1], fun i b y h1 h2 => ?_⟩
  by_cases hij : j = i
  · subst hij
    have hj : j < as.length := by
      have := (List.getElem?_eq_some_iff.mp h1).1
      rw [List.length_set] at this
      exact this
    rw [List.getElem?_set_self hj] at h1
    rw [List.getElem?_set_self (by rw [← h.1]; exact hj)] at h2
    cases h1
    cases h2
    exact p
  · rw [List.getElem?_set_ne hij] at h1 h2
    exact h.2 i b y h1 h2

theorem ixn {n j : Nat} (hj : j < n) : ixN n (j : Int) = some j := by
  unfold ixN
  rw [if_pos (by omega), if_pos (by omega)]
  rfl
end Vs

namespace Vs
open PySem PySem.Spec PyProof.Rows L2

def topS (i : Nat) : Stmt := PySem.Challenge.pw_whensure_k19_texts_tell_all.main.body.getD i (.Pass ⟨0, 0, 0, 0⟩)
abbrev s_write_integers : Stmt := topS 4
abbrev nm_write_integers : List Str := ["head", "integers", "words", "integer"]
theorem sc_write_integers : FnScope nm_write_integers ["head", "integers"] (defScope s_write_integers) := ⟨rfl, rfl, rfl, by decide +kernel, rfl, by decide +kernel, by decide +kernel⟩
abbrev s_put_sequence : Stmt := topS 8
abbrev nm_put_sequence : List Str := ["out", "integers"]
theorem sc_put_sequence : FnScope nm_put_sequence ["out", "integers"] (defScope s_put_sequence) := ⟨rfl, rfl, rfl, by decide +kernel, rfl, by decide +kernel, by decide +kernel⟩
abbrev s_put_deed : Stmt := topS 13
abbrev nm_put_deed : List Str := ["out", "deed"]
theorem sc_put_deed : FnScope nm_put_deed ["out", "deed"] (defScope s_put_deed) := ⟨rfl, rfl, rfl, by decide +kernel, rfl, by decide +kernel, by decide +kernel⟩
abbrev s_put_event : Stmt := topS 14
abbrev nm_put_event : List Str := ["out", "event", "asleep", "shown", "after", "deed", "knows"]
theorem sc_put_event : FnScope nm_put_event ["out", "event"] (defScope s_put_event) := ⟨rfl, rfl, rfl, by decide +kernel, rfl, by decide +kernel, by decide +kernel⟩
abbrev s_write_letter : Stmt := topS 18
abbrev nm_write_letter : List Str := ["letter", "out", "sender", "receiver", "link", "number", "records", "device", "place", "event"]
theorem sc_write_letter : FnScope nm_write_letter ["letter"] (defScope s_write_letter) := ⟨rfl, rfl, rfl, by decide +kernel, rfl, by decide +kernel, by decide +kernel⟩
abbrev s_is_integer : Stmt := topS 5
abbrev nm_is_integer : List Str := ["word", "most_digits", "digits"]
theorem sc_is_integer : FnScope nm_is_integer ["word", "most_digits"] (defScope s_is_integer) := ⟨rfl, rfl, rfl, by decide +kernel, rfl, by decide +kernel, by decide +kernel⟩
abbrev s_read_integers : Stmt := topS 6
abbrev nm_read_integers : List Str := ["head", "text", "most_digits", "lines", "words", "word"]
theorem sc_read_integers : FnScope nm_read_integers ["head", "text", "most_digits"] (defScope s_read_integers) := ⟨rfl, rfl, rfl, by decide +kernel, rfl, by decide +kernel, by decide +kernel⟩
abbrev s_take_any : Stmt := inClass (topS 7) 1
abbrev nm_take_any : List Str := ["self"]
theorem sc_take_any : FnScope nm_take_any ["self"] (defScope s_take_any) := ⟨rfl, rfl, rfl, by decide +kernel, rfl, by decide +kernel, by decide +kernel⟩
abbrev s_take_number : Stmt := inClass (topS 7) 2
abbrev nm_take_number : List Str := ["self", "integer"]
theorem sc_take_number : FnScope nm_take_number ["self"] (defScope s_take_number) := ⟨rfl, rfl, rfl, by decide +kernel, rfl, by decide +kernel, by decide +kernel⟩
abbrev s_take_length : Stmt := inClass (topS 7) 4
abbrev nm_take_length : List Str := ["self", "length"]
theorem sc_take_length : FnScope nm_take_length ["self"] (defScope s_take_length) := ⟨rfl, rfl, rfl, by decide +kernel, rfl, by decide +kernel, by decide +kernel⟩
abbrev s_take_numbers : Stmt := inClass (topS 7) 6
abbrev nm_take_numbers : List Str := ["self", "_"]
theorem sc_take_numbers : FnScope nm_take_numbers ["self"] (defScope s_take_numbers) := ⟨rfl, rfl, rfl, by decide +kernel, rfl, by decide +kernel, by decide +kernel⟩
abbrev s_take_deed : Stmt := topS 15
abbrev nm_take_deed : List Str := ["taker", "place", "name"]
theorem sc_take_deed : FnScope nm_take_deed ["taker"] (defScope s_take_deed) := ⟨rfl, rfl, rfl, by decide +kernel, rfl, by decide +kernel, by decide +kernel⟩
abbrev s_take_flag : Stmt := inClass (topS 7) 3
abbrev nm_take_flag : List Str := ["self", "integer"]
theorem sc_take_flag : FnScope nm_take_flag ["self"] (defScope s_take_flag) := ⟨rfl, rfl, rfl, by decide +kernel, rfl, by decide +kernel, by decide +kernel⟩
abbrev s_take_anys : Stmt := inClass (topS 7) 5
abbrev nm_take_anys : List Str := ["self", "_"]
theorem sc_take_anys : FnScope nm_take_anys ["self"] (defScope s_take_anys) := ⟨rfl, rfl, rfl, by decide +kernel, rfl, by decide +kernel, by decide +kernel⟩
abbrev s_take_event : Stmt := topS 16
abbrev nm_take_event : List Str := ["taker", "asleep", "shown", "after", "deed"]
theorem sc_take_event : FnScope nm_take_event ["taker"] (defScope s_take_event) := ⟨rfl, rfl, rfl, by decide +kernel, rfl, by decide +kernel, by decide +kernel⟩
abbrev s_take_record : Stmt := topS 17
abbrev nm_take_record : List Str := ["taker"]
theorem sc_take_record : FnScope nm_take_record ["taker"] (defScope s_take_record) := ⟨rfl, rfl, rfl, by decide +kernel, rfl, by decide +kernel, by decide +kernel⟩
abbrev s___init__ : Stmt := inClass (topS 7) 0
abbrev nm___init__ : List Str := ["self", "integers"]
theorem sc___init__ : FnScope nm___init__ ["self", "integers"] (defScope s___init__) := ⟨rfl, rfl, rfl, by decide +kernel, rfl, by decide +kernel, by decide +kernel⟩
abbrev s_take_end : Stmt := inClass (topS 7) 7
abbrev nm_take_end : List Str := ["self"]
theorem sc_take_end : FnScope nm_take_end ["self"] (defScope s_take_end) := ⟨rfl, rfl, rfl, by decide +kernel, rfl, by decide +kernel, by decide +kernel⟩
abbrev s_read_letter : Stmt := topS 19
abbrev nm_read_letter : List Str := ["text", "taker", "records", "sender", "receiver", "link", "number", "_"]
theorem sc_read_letter : FnScope nm_read_letter ["text"] (defScope s_read_letter) := ⟨rfl, rfl, rfl, by decide +kernel, rfl, by decide +kernel, by decide +kernel⟩
abbrev s__law_cell : Stmt := topS 21
abbrev nm__law_cell : List Str := ["script", "k", "cell", "mixed", "more"]
theorem sc__law_cell : FnScope nm__law_cell ["script", "k"] (defScope s__law_cell) := ⟨rfl, rfl, rfl, by decide +kernel, rfl, by decide +kernel, by decide +kernel⟩
abbrev s__law_values : Stmt := topS 22
abbrev nm__law_values : List Str := ["seed", "count", "signed", "values", "k", "value"]
theorem sc__law_values : FnScope nm__law_values ["seed", "count", "signed"] (defScope s__law_values) := ⟨rfl, rfl, rfl, by decide +kernel, rfl, by decide +kernel, by decide +kernel⟩
abbrev s__law_deed : Stmt := topS 23
abbrev nm__law_deed : List Str := ["shape", "seed", "place", "naturals", "signed"]
theorem sc__law_deed : FnScope nm__law_deed ["shape", "seed"] (defScope s__law_deed) := ⟨rfl, rfl, rfl, by decide +kernel, rfl, by decide +kernel, by decide +kernel⟩
abbrev s__law_event : Stmt := topS 24
abbrev nm__law_event : List Str := ["first", "second", "third", "shown", "after", "knows"]
theorem sc__law_event : FnScope nm__law_event ["first", "second", "third"] (defScope s__law_event) := ⟨rfl, rfl, rfl, by decide +kernel, rfl, by decide +kernel, by decide +kernel⟩
abbrev s__law_letter : Stmt := topS 25
abbrev nm__law_letter : List Str := ["script", "most", "head", "records", "k", "places", "first", "place", "event"]
theorem sc__law_letter : FnScope nm__law_letter ["script", "most"] (defScope s__law_letter) := ⟨rfl, rfl, rfl, by decide +kernel, rfl, by decide +kernel, by decide +kernel⟩
abbrev s__law_same : Stmt := topS 26
abbrev nm__law_same : List Str := ["actual", "expected", "k"]
theorem sc__law_same : FnScope nm__law_same ["actual", "expected"] (defScope s__law_same) := ⟨rfl, rfl, rfl, by decide +kernel, rfl, by decide +kernel, by decide +kernel⟩
abbrev s__law_next : Stmt := topS 27
abbrev nm__law_next : List Str := ["number", "step"]
theorem sc__law_next : FnScope nm__law_next ["number", "step"] (defScope s__law_next) := ⟨rfl, rfl, rfl, by decide +kernel, rfl, by decide +kernel, by decide +kernel⟩
abbrev s__law_turned : Stmt := topS 28
abbrev nm__law_turned : List Str := ["event", "shape", "asleep", "shown", "after", "deed", "knows"]
theorem sc__law_turned : FnScope nm__law_turned ["event", "shape"] (defScope s__law_turned) := ⟨rfl, rfl, rfl, by decide +kernel, rfl, by decide +kernel, by decide +kernel⟩
abbrev s_law : Stmt := topS 29
abbrev nm_law : List Str := ["script", "letter", "shape", "records", "place", "choice", "other", "alike", "record"]
theorem sc_law : FnScope nm_law ["script"] (defScope s_law) := ⟨rfl, rfl, rfl, by decide +kernel, rfl, by decide +kernel, by decide +kernel⟩
section
variable {P : Program} {w : World} {K : PySem.W.Frag} {mg : Str → Option Value} {base : Heap}
def sp_write_integers (K : PySem.W.Frag) : Sp := fun vs H Q _ => ∃ (hd : Str) (a : Addr) (ns : List Int), vs = [.str hd, .ref a] ∧ SqL K H a (ns.map V.int) ∧ (∀ n ∈ ns, In18 n) ∧ ns.length ≤ 1000 ∧ hd.length ≤ 100 ∧ ∀ H', Same H H' → Q (.str (textOf hd ns)) H'
theorem ok_write_integers {f : Addr} {fd : FuncData} (D : Df K mg "write_integers" s_write_integers ["head", "integers"] f fd) (T : Txt K mg) : FnOk P w K mg base CX0 1 f fd ["head", "integers"] (sp_write_integers K) := by
  refine D.F.ok sc_write_integers (fun vs H Q E h => ?_) (fun cdv A outer s H vs Q E hr h => ?_)
  · obtain ⟨hd, a, ns, rfl, _⟩ := h
    rfl
  obtain ⟨hd, a, ns, rfl, hS, hi, hl, hh, q⟩ := h
  refine ⟨_, (pss_cons (ps_setLc (i := 2) (own := [("integer", 3)]) (g := gName 3) (tt := tYes) rfl sc_write_integers.nd rfl rfl (sw_true rfl rfl rfl (by decide +kernel)) (pi_list (pv 1)) (blkOk_by (own := [("integer", 3)]) (N := nm_write_integers) (sc := defScope s_write_integers) (by decide +kernel)) (fun _ _ _ _ _ => (pg_name (i := 3) sc_write_integers.nd rfl (Or.inl rfl))) (fun _ _ _ _ _ => pts_nil) (fun _ _ _ _ _ => (pe_callTy call_str_int rfl T.str (by decide +kernel) (pa_cons (pv 3) pa_nil))))
    (pss_one (ps_ret (pe_op op_add_str (pe_op op_add_str (pe_op op_add_str (pv 0) pe_str) (pe_join pe_str (pv 2))) pe_str)))), ?_⟩
  refine ⟨_, rfl, a, rfl, ⟨_, hS⟩, fun D hD => lc_list (K := K) (a := a) (xs := ns.map V.int) (fun i H' => Same H H' ∧ H' D = some (.lst ((words (ns.take i)).map V.str))) ⟨same_upd hD, upd_same⟩ (fun i H' _ p => p.1.seq hS) ?_ ?_⟩
  · rintro i x H' hx ⟨sm, e⟩
    obtain ⟨hil, rfl⟩ := int_get hx
    have hlt : ((words (ns.take i)).map V.str).length = i := by rw [List.length_map, words_len, List.length_take]; omega
    refine ⟨rfl, _, rfl, _, rfl, (hi _ (List.getElem_mem hil)).log, _, e, by rw [hlt]; exact sizes' (by omega), fun b u h => ?_, ?_⟩
    · rw [upd_ne (ne_of_none h hD)]
      exact sm b u h
    · rw [upd_same, words_take_succ hil, List.map_append]
      rfl
  · rintro H' ⟨sm, e⟩
    rw [List.length_map, List.take_length] at e
    have hj := joined_len hi
    have l1 : (hd ++ Str.ofString "\n").length ≤ 101 := by rw [Str.length_append, nl_len]; omega
    have l2 : (hd ++ Str.ofString "\n" ++ Txt.join (Str.ofString " ") (words ns)).length ≤ 20101 := by rw [Str.length_append]; omega
    refine ⟨_, rfl, _, _, rfl, rfl, sizes (by rw [nl_len]; omega), ⟨_, rfl⟩, _, rfl, _, _, _, rfl, rfl, .inl (SqL.of e), join_fit hi hl, _, _, rfl, rfl, sizes (by omega), _, _, rfl, rfl, sizes (by rw [nl_len]; omega), q H' sm⟩
def sp_put_sequence (K : PySem.W.Frag) : Sp := fun vs H Q _ => ∃ (o b : Addr) (xs : List V) (ns : List Int), vs = [.ref o, .ref b] ∧ H o = some (.lst xs) ∧ TupI K H b ns ∧ xs.length + ns.length ≤ 2000 ∧
  ∀ H', But o H H' → H' o = some (.lst (xs ++ (numSeq ns).map V.int)) → Q .non H'
theorem ok_put_sequence {f : Addr} {fd : FuncData} (D : Df K mg "put_sequence" s_put_sequence ["out", "integers"] f fd) (T : Txt K mg) : FnOk P w K mg base CX0 1 f fd ["out", "integers"] (sp_put_sequence K) := by
  refine D.F.ok sc_put_sequence (fun vs H Q E h => ?_) (fun cdv A outer s H vs Q E hr h => ?_)
  · obtain ⟨o, b, xs, ns, rfl, _⟩ := h
    rfl
  obtain ⟨o, b, xs, ns, rfl, ho, hb, hl, q⟩ := h
  refine ⟨_, (pss_cons (ps_expr (pe_bm PySem.F.plainAttrs_list PySem.F.slot_list_append PySem.F.type_list_append mt_append (pv 0) (pa_cons (pe_callB call_len_seq rfl T.len PySem.boot_len (pa_cons (pv 1) pa_nil)) pa_nil)))
    (pss_one (ps_expr (pe_bm PySem.F.plainAttrs_list PySem.F.slot_list_extend PySem.F.type_list_extend mt_extendT (pv 0) (pa_cons (pv 1) pa_nil))))), ?_⟩
  refine ⟨_, rfl, .inl ⟨rfl, _, SqL.of ho⟩, _, rfl, _, _, rfl, .inr hb, _, _, _, rfl, rfl, ho, sizes' (by omega), ?_⟩
  refine ⟨_, rfl, .inl ⟨rfl, _, SqL.of upd_same⟩, _, rfl, _, _, _, _, rfl, rfl, upd_same, hb.but But.set ho, sizes (by rw [List.length_append, List.length_map, List.length_singleton]; omega), ?_⟩
  refine q _ (But.set.trans But.set) ?_
  rw [upd_same, List.append_assoc, List.length_map]
  rfl
def sp_put_deed (K : PySem.W.Frag) : Sp := fun vs H Q _ => ∃ (o a : Addr) (xs : List V) (d : Dd), vs = [.ref o, .ref a] ∧ H o = some (.lst xs) ∧ DdAt K H a d ∧ d.Ok ∧ xs.length ≤ 1800 ∧
  ∀ H', But o H H' → H' o = some (.lst (xs ++ (numD d).map V.int)) → Q .non H'
theorem ok_put_deed {f : Addr} {fd : FuncData} (D : Df K mg "put_deed" s_put_deed ["out", "deed"] f fd) (T : Txt K mg) {aD : Addr} (DS : Deeds K mg aD) {f_put_sequence : Addr} {fd_put_sequence : FuncData} (D_put_sequence : Df K mg "put_sequence" s_put_sequence ["out", "integers"] f_put_sequence fd_put_sequence) (G_put_sequence : FnOk P w K mg base CX0 1 f_put_sequence fd_put_sequence ["out", "integers"] (sp_put_sequence K)) : FnOk P w K mg base CX0 2 f fd ["out", "deed"] (sp_put_deed K) := by
  refine D.F.ok sc_put_deed (fun vs H Q E h => ?_) (fun cdv A outer s H vs Q E hr h => ?_)
  · obtain ⟨o, a, xs, d, rfl, _⟩ := h
    rfl
  obtain ⟨o, a, xs, d, rfl, ho, hd, hk, hl, q⟩ := h
  refine ⟨_, (pss_cons (ps_expr (pe_bm PySem.F.plainAttrs_list PySem.F.slot_list_append PySem.F.type_list_append mt_append (pv 0) (pa_cons (pe_bm PySem.F.plainAttrs_tuple PySem.F.slot_tuple_index PySem.F.type_tuple_index mt_tup_index (pe_glob (v := V.ref aD) rfl DS.m rfl) (pa_cons (pe_ix ix_tup (pv 1) pe_int (fun _ _ => rfl)) pa_nil)) pa_nil)))
    (pss_one (ps_if (pt_cmpR op_eq (pe_ix ix_tup (pv 1) pe_int (fun _ _ => rfl)) pe_str (nomark _))
      (pss_one (ps_expr (pe_call G_put_sequence (hr.mono (by decide)) rfl D_put_sequence.m D_put_sequence.F.kp D_put_sequence.b .nil pass0 (pa_cons (pv 0) (pa_cons (pe_ix ix_tup (pv 1) pe_int (fun _ _ => rfl)) pa_nil)))))
      (pss_one (ps_expr (pe_bm PySem.F.plainAttrs_list PySem.F.slot_list_extend PySem.F.type_list_extend mt_extendT (pv 0) (pa_cons (pe_slice sl_tup (pv 1) (po_some pe_int) po_none) pa_nil))))))), ?_⟩
  obtain ⟨ob, lk, oc, od⟩ := DS.o
  have hn := hk.len
  obtain ⟨z, rest, hz, ht, hr2⟩ := id hd
  have hz' : (deedNames.map V.str)[d.place]? = some (V.str z) := by rw [List.getElem?_map, hz]; rfl
  refine ⟨_, rfl, .inl ⟨rfl, _, SqL.of ho⟩, .inr (.inl ⟨rfl, ob, lk, oc, od⟩), _, rfl, _, _, _, _, rfl, rfl, ht, at_of (j := 0) rfl rfl, _, _, _, _, rfl, rfl, DS.sq _, hz, fun m hm => dn_first hz hm, _, _, _, rfl, rfl, ho, sizes' (by omega), ?_⟩
  have b1 : But o H (upd H o (.lst (xs ++ [V.int (d.place : Int)]))) := But.set
  have ht1 := butTup b1 ho ht
  have hl1 : (xs ++ [V.int (d.place : Int)]).length = xs.length + 1 := by rw [List.length_append, List.length_singleton]
  refine ⟨_, rfl, _, _, _, _, rfl, rfl, ht1, at_of (j := 0) rfl rfl, rfl, _, rfl, ?_⟩
  refine ite2 (fun c => ?_) (fun c => ?_)
  · have c' : z = "anew" := by injection (of_decide_eq_true c)
    have h8 := (dn_anew hz).mp c'
    rcases hr2 with ⟨_, b, rfl, hb⟩ | ⟨n8, _⟩
    · refine ⟨_, rfl, _, rfl, _, _, _, _, rfl, rfl, ht1, at_of (j := 1) rfl rfl, _, _, _, _, rfl, upd_same, hb.but b1 ho, by omega, fun H' b2 e => ?_⟩
      refine q H' (b1.trans b2) ?_
      rw [e, List.append_assoc]
      unfold numD
      rw [if_pos h8]
      rfl
    · exact absurd h8 n8
  · have c' : ¬ z = "anew" := fun e => c (decide_eq_true (by rw [e]))
    have h8 : d.place ≠ 8 := fun e => c' ((dn_anew hz).mpr e)
    rcases hr2 with ⟨e8, _⟩ | ⟨_, rfl⟩
    · exact absurd e8 h8
    · refine ⟨_, rfl, .inl ⟨rfl, _, SqL.of upd_same⟩, _, rfl, _, rfl, _, _, rfl, ht1, ?_, fun p hp => ?_⟩
      · rintro ⟨e, _⟩
        rw [show ((1 : Int)) = ((1 : Nat) : Int) from rfl, HT.sIx_nat] at e
        rw [List.length_cons] at e
        omega
      · have s2 : Same (upd H o (.lst (xs ++ [V.int (d.place : Int)]))) (upd (upd H o (.lst (xs ++ [V.int (d.place : Int)]))) p (.tup (cutV (V.str z :: d.nums.map V.int) (some 1) none))) := same_upd hp
        refine ⟨_, _, _, _, rfl, rfl, s2 _ _ upd_same, SqT.of upd_same, ?_, ?_⟩
        · rw [cut1, hl1]
          refine sizes ?_
          show _ + (d.nums.map V.int).length ≤ _
          rw [List.length_map]
          omega
        · refine q _ ((b1.trans (But.of s2)).trans But.set) ?_
          rw [upd_same, cut1, List.append_assoc]
          unfold numD
          rw [if_neg h8]
          rfl
def sp_put_event (K : PySem.W.Frag) : Sp := fun vs H Q _ => ∃ (o a : Addr) (xs : List V) (e : Ev), vs = [.ref o, .ref a] ∧ H o = some (.lst xs) ∧ EvAt K H a e ∧ e.Ok ∧ xs.length ≤ 1500 ∧
  ∀ H', But o H H' → H' o = some (.lst (xs ++ (numE e).map V.int)) → Q .non H'
theorem ok_put_event {f : Addr} {fd : FuncData} (D : Df K mg "put_event" s_put_event ["out", "event"] f fd) (T : Txt K mg) {f_put_sequence : Addr} {fd_put_sequence : FuncData} (D_put_sequence : Df K mg "put_sequence" s_put_sequence ["out", "integers"] f_put_sequence fd_put_sequence) (G_put_sequence : FnOk P w K mg base CX0 1 f_put_sequence fd_put_sequence ["out", "integers"] (sp_put_sequence K)) {f_put_deed : Addr} {fd_put_deed : FuncData} (D_put_deed : Df K mg "put_deed" s_put_deed ["out", "deed"] f_put_deed fd_put_deed) (G_put_deed : FnOk P w K mg base CX0 2 f_put_deed fd_put_deed ["out", "deed"] (sp_put_deed K)) : FnOk P w K mg base CX0 3 f fd ["out", "event"] (sp_put_event K) := by
  refine D.F.ok sc_put_event (fun vs H Q E h => ?_) (fun cdv A outer s H vs Q E hr h => ?_)
  · obtain ⟨o, a, xs, e, rfl, _⟩ := h
    rfl
  obtain ⟨o, a, xs, e, rfl, ho, ⟨p1, p2, p3, p4, ht, h1, h2, h3, h4⟩, hk, hl, q⟩ := h
  refine ⟨_, (pss_cons (ps_asg (pv 1) (pg_tup rfl (pgs_cons (pg_name (i := 2) sc_put_event.nd rfl (Or.inl rfl)) (pgs_cons (pg_name (i := 3) sc_put_event.nd rfl (Or.inl rfl)) (pgs_cons (pg_name (i := 4) sc_put_event.nd rfl (Or.inl rfl)) (pgs_cons (pg_name (i := 5) sc_put_event.nd rfl (Or.inl rfl)) (pgs_cons (pg_name (i := 6) sc_put_event.nd rfl (Or.inl rfl)) pgs_nil)))))))
    (pss_cons (ps_expr (pe_bm PySem.F.plainAttrs_list PySem.F.slot_list_append PySem.F.type_list_append mt_append (pv 0) (pa_cons (pe_ifExp (pt_val (pv 2)) pe_int pe_int) pa_nil)))
    (pss_cons (ps_expr (pe_call G_put_sequence (hr.mono (by decide)) rfl D_put_sequence.m D_put_sequence.F.kp D_put_sequence.b .nil pass0 (pa_cons (pv 0) (pa_cons (pv 3) pa_nil))))
    (pss_cons (ps_expr (pe_call G_put_sequence (hr.mono (by decide)) rfl D_put_sequence.m D_put_sequence.F.kp D_put_sequence.b .nil pass0 (pa_cons (pv 0) (pa_cons (pv 4) pa_nil))))
    (pss_cons (ps_expr (pe_call G_put_deed (hr.mono (by decide)) rfl D_put_deed.m D_put_deed.F.kp D_put_deed.b .nil pass0 (pa_cons (pv 0) (pa_cons (pv 5) pa_nil))))
    (pss_one (ps_expr (pe_call G_put_sequence (hr.mono (by decide)) rfl D_put_sequence.m D_put_sequence.F.kp D_put_sequence.b .nil pass0 (pa_cons (pv 0) (pa_cons (pv 6) pa_nil)))))))))), ?_⟩
  have k1 := hk.s1; have k2 := hk.s2; have k3 := hk.s3; have k4 := numD_len hk.d
  refine ⟨_, rfl, _, _, rfl, ht, rfl, _, _, rfl, _, _, rfl, _, _, rfl, _, _, rfl, _, _, rfl, rfl, ?_⟩
  refine ⟨_, rfl, .inl ⟨rfl, _, SqL.of ho⟩, _, rfl, _, rfl, ?_⟩
  have key : ∀ b : Int, b = b2n e.asleep → (upd H o (.lst (xs ++ [V.int b]))) = (upd H o (.lst (xs ++ [V.int (b2n e.asleep)]))) := fun b hb => by rw [hb]
  have b1 : But o H (upd H o (.lst (xs ++ [V.int (b2n e.asleep)]))) := But.set
  refine ite2 (fun c => ?_) (fun c => ?_)
  all_goals
    refine ⟨_, _, _, rfl, rfl, ho, sizes' (by omega), ?_⟩
    first | rw [key 1 (by unfold b2n; rw [if_pos c])] | rw [key 0 (by unfold b2n; rw [if_neg c])]
    refine ⟨_, rfl, _, rfl, o, p1, _, _, rfl, upd_same, h1.but b1 ho, by rw [List.length_append, List.length_singleton]; omega, fun H2 b2 e2 => ?_⟩
    have b12 := b1.trans b2
    refine ⟨_, rfl, _, rfl, o, p2, _, _, rfl, e2, h2.but b12 ho, by simp [numSeq]; omega, fun H3 b3 e3 => ?_⟩
    have b13 := b12.trans b3
    refine ⟨_, rfl, _, rfl, o, p3, _, _, rfl, e3, h3.but b13 ho, hk.d, by simp [numSeq]; omega, fun H4 b4 e4 => ?_⟩
    have b14 := b13.trans b4
    refine ⟨_, rfl, _, rfl, o, p4, _, _, rfl, e4, h4.but b14 ho, by simp only [List.length_append, List.length_map, numSeq, List.length_cons, List.length_nil]; omega, fun H5 b5 e5 => ?_⟩
    refine q H5 (b14.trans b5) ?_
    rw [e5]
    unfold numE
    simp only [List.append_assoc, List.map_append, List.map_cons, List.map_nil]
def sp_write_letter (K : PySem.W.Frag) : Sp := fun vs H Q _ => ∃ (a : Addr) (l : Lt), vs = [.ref a] ∧ LtAt K H a l ∧ l.Ok ∧ ∀ H', Same H H' → Q (.str (textOf "whensure letter" (numL l))) H'
theorem ok_write_letter {f : Addr} {fd : FuncData} (D : Df K mg "write_letter" s_write_letter ["letter"] f fd) (T : Txt K mg) {t_LETTER_HEAD : Tok} (g_LETTER_HEAD : mg "LETTER_HEAD" = some (.str "whensure letter" t_LETTER_HEAD)) {f_write_integers : Addr} {fd_write_integers : FuncData} (D_write_integers : Df K mg "write_integers" s_write_integers ["head", "integers"] f_write_integers fd_write_integers) (G_write_integers : FnOk P w K mg base CX0 1 f_write_integers fd_write_integers ["head", "integers"] (sp_write_integers K)) {f_put_event : Addr} {fd_put_event : FuncData} (D_put_event : Df K mg "put_event" s_put_event ["out", "event"] f_put_event fd_put_event) (G_put_event : FnOk P w K mg base CX0 3 f_put_event fd_put_event ["out", "event"] (sp_put_event K)) : FnOk P w K mg base CX0 4 f fd ["letter"] (sp_write_letter K) := by
  refine D.F.ok sc_write_letter (fun vs H Q E h => ?_) (fun cdv A outer s H vs Q E hr h => ?_)
  · obtain ⟨a, l, rfl, _⟩ := h
    rfl
  obtain ⟨a, l, rfl, ⟨b, as, ht, hb, he⟩, hk, q⟩ := h
  refine ⟨_, (pss_cons (ps_asg (pv 0) (pg_tup rfl (pgs_cons (pg_name (i := 2) sc_write_letter.nd rfl (Or.inl rfl)) (pgs_cons (pg_name (i := 3) sc_write_letter.nd rfl (Or.inl rfl)) (pgs_cons (pg_name (i := 4) sc_write_letter.nd rfl (Or.inl rfl)) (pgs_cons (pg_name (i := 5) sc_write_letter.nd rfl (Or.inl rfl)) (pgs_cons (pg_name (i := 6) sc_write_letter.nd rfl (Or.inl rfl)) pgs_nil)))))))
    (pss_cons (ps_set (i := 1) sc_write_letter.nd rfl (Or.inl rfl) (pe_lst (pa_cons (pv 2) (pa_cons (pv 3) (pa_cons (pv 4) (pa_cons (pv 5) (pa_cons (pe_callB call_len_seq rfl T.len PySem.boot_len (pa_cons (pv 6) pa_nil)) pa_nil)))))))
    (pss_cons (ps_for PassesOwn.never rfl (pi_tup (pv 6)) (pg_tup rfl (pgs_cons (pg_name (i := 7) sc_write_letter.nd rfl (Or.inl rfl)) (pgs_cons (pg_name (i := 8) sc_write_letter.nd rfl (Or.inl rfl)) (pgs_cons (pg_name (i := 9) sc_write_letter.nd rfl (Or.inl rfl)) pgs_nil))))
      (pss_cons (ps_expr (pe_bm PySem.F.plainAttrs_list PySem.F.slot_list_extend PySem.F.type_list_extend mt_extend (pv 1) (pa_cons (pe_lst (pa_cons (pv 7) (pa_cons (pv 8) pa_nil))) pa_nil)))
    (pss_one (ps_expr (pe_call G_put_event (hr.mono (by decide)) rfl D_put_event.m D_put_event.F.kp D_put_event.b .nil pass0 (pa_cons (pv 1) (pa_cons (pv 9) pa_nil)))))))
    (pss_one (ps_ret (pe_call G_write_integers (hr.mono (by decide)) rfl D_write_integers.m D_write_integers.F.kp D_write_integers.b .nil pass0 (pa_cons (pe_glob (v := V.str "whensure letter") rfl g_LETTER_HEAD ⟨_, rfl⟩) (pa_cons (pv 1) pa_nil)))))))), ?_⟩
  have hrl := hk.len
  have hal : (as.map V.ref).length = l.recs.length := by rw [List.length_map]; exact he.1
  refine ⟨_, rfl, _, _, rfl, ht, rfl, _, _, rfl, _, _, rfl, _, _, rfl, _, _, rfl, _, _, rfl, rfl, ?_⟩
  refine ⟨_, rfl, _, rfl, _, rfl, _, rfl, _, rfl, _, _, rfl, .inr hb, (by show 5 ≤ sizeLine; decide), fun o hp => ?_⟩
  have s1 : Same H (upd H o (.lst [.int l.s, .int l.r, .int l.k, .int l.n, .int ((as.map V.ref).length : Nat)])) := same_upd hp
  refine ⟨_, rfl, b, rfl, ⟨_, sTup s1 hb⟩, for_tup (K := K) (a := b) (xs := as.map V.ref) (fun i σ H' => ∃ d p e, σ = [some (.ref a), some (.ref o), some (.int l.s), some (.int l.r), some (.int l.k), some (.int l.n), some (.ref b), d, p, e] ∧ Same H H' ∧ H' o = some (.lst ((headL l ++ (l.recs.take i).flatMap numR).map V.int)))
    ⟨none, none, none, rfl, s1, ?_⟩ (fun i σ H' _ ⟨_, _, _, _, sm, _⟩ => sTup sm hb) ?_ ?_⟩
  · rw [upd_same, hal]
    rfl
  · rintro i x σ H' hx ⟨d, p, e, rfl, sm, eo⟩
    obtain ⟨hil, rfl⟩ := ref_get hx
    obtain ⟨r, hr1, ev, hr2, hr3⟩ := (he.keep fun _ _ z => RcAt.keep sm z).get (List.getElem?_eq_getElem hil)
    have hrk := hk.rs r (List.mem_of_getElem? hr1)
    have hf := flat_take_len (f := numR) (m := 26) (xs := l.recs) (fun r hr => numR_len (hk.rs r hr)) i
    have hi : i < l.recs.length := by rw [← he.1]; exact hil
    have hln : ((headL l ++ (l.recs.take i).flatMap numR).map V.int).length ≤ 600 := by
      rw [List.length_map, List.length_append]
      show 5 + _ ≤ 600
      omega
    refine ⟨_, _, rfl, hr2, rfl, _, _, rfl, _, _, rfl, _, _, rfl, rfl, ?_⟩
    refine ⟨_, rfl, .inl ⟨rfl, _, SqL.of eo⟩, _, rfl, _, rfl, (by show 2 ≤ sizeLine; decide), fun u hu => ?_⟩
    have s2 : Same H' (upd H' u (.lst [.int r.dev, .int r.num])) := same_upd hu
    have ou : o ≠ u := ne_of_none eo hu
    have eo2 := s2 _ _ eo
    refine ⟨_, _, _, _, rfl, rfl, eo2, upd_same, sizes (by simp only [List.length_cons, List.length_nil]; omega), ?_⟩
    refine ⟨_, rfl, _, rfl, o, ev, _, r.ev, rfl, upd_same, (hr3.keep s2).but But.set eo2, hrk.e, by rw [List.length_append]; simp only [List.length_cons, List.length_nil]; omega, fun H3 b3 e3 => ?_⟩
    refine ⟨_, _, _, rfl, fun c w hc => ?_, ?_⟩
    · have co : c ≠ o := ne_of_none hc hp
      exact b3 c w co (by rw [upd_ne co]; exact s2 _ _ (sm _ _ hc))
    · rw [e3, flat_take hr1]
      unfold numR
      simp only [List.append_assoc, List.map_append, List.map_cons, List.map_nil]
  · rintro σ H' ⟨d, p, e, rfl, sm, eo⟩
    rw [hal, List.take_length] at eo
    have hln := numL_len hk
    exact ⟨_, rfl, _, o, numL l, rfl, SqL.of eo, numL_in hk, by omega, by decide +kernel, fun H2 s2 => q H2 (sm.trans s2)⟩
theorem rm_len (z : Str) : (Txt.removeprefix z (Str.ofString "-")).length ≤ z.length := by
  rw [TL.len_tl, TL.len_tl z, rmdash]
  split
  · rw [List.length_drop]
    omega
  · exact Nat.le_refl _
def sp_is_integer (K : PySem.W.Frag) : Sp := fun vs H Q _ => ∃ (z : Str) (m : Int), vs = [.str z, .int m] ∧ z.length ≤ sizeLine ∧ Q (.bl (isIntW z m)) H
theorem ok_is_integer {f : Addr} {fd : FuncData} (D : Df K mg "is_integer" s_is_integer ["word", "most_digits"] f fd) (T : Txt K mg) : FnOk P w K mg base CX0 1 f fd ["word", "most_digits"] (sp_is_integer K) := by
  refine D.F.ok sc_is_integer (fun vs H Q E h => ?_) (fun cdv A outer s H vs Q E hr h => ?_)
  · obtain ⟨z, m, rfl, _⟩ := h
    rfl
  obtain ⟨z, m, rfl, hz, q⟩ := h
  refine ⟨_, (pss_cons (ps_set (i := 2) sc_is_integer.nd rfl (Or.inl rfl) (pe_m1 PySem.F.slot_str_removeprefix PySem.F.type_str_removeprefix mt_removeprefix (pv 0) pe_str))
    (pss_cons (ps_if (PW.pt (pw_or (pt_not (PW.pt (pw_and (pt_val (pe_m0 PySem.F.slot_str_isascii PySem.F.type_str_isascii mt_isascii (pv 2))) (pw_and1 (pt_val (pe_m0 PySem.F.slot_str_isdigit PySem.F.type_str_isdigit mt_isdigit (pv 2))))))) (pw_or1 (pt_cmpR op_gt (pe_callB call_len_str rfl T.len PySem.boot_len (pa_cons (pv 2) pa_nil)) (pv 1) (nomark _)))))
      (pss_one (ps_ret pe_bl))
      pss_nil)
    (pss_one (ps_ret (pe_or (pe_cmpR op_eq (pv 0) pe_str (nomark _)) (pe_one (pe_not (pe_m1 PySem.F.slot_str_startswith PySem.F.type_str_startswith mt_startswith (pv 2) pe_str)))))))), ?_⟩
  have hl := rm_len z
  refine ⟨_, rfl, ⟨_, rfl⟩, _, _, rfl, rfl, hz, ?_⟩
  have key : ∀ b : Bool, b = isIntW z m → Q (.bl b) H := fun b h => by rw [h]; exact q
  unfold isIntW at key
  refine ⟨_, rfl, ⟨_, rfl⟩, _, rfl, rfl, trivial, _, rfl, ?_⟩
  cases h1 : Txt.isascii (Txt.removeprefix z (Str.ofString "-")) with
  | false =>
    rw [h1] at key
    exact iteF (iteT (iteT (key false rfl)))
  | true =>
    rw [h1] at key
    refine iteT ⟨_, rfl, ⟨_, rfl⟩, _, rfl, rfl, trivial, _, rfl, ?_⟩
    cases h2 : Txt.isdigit (Txt.removeprefix z (Str.ofString "-")) with
    | false =>
      rw [h2] at key
      exact iteT (iteT (key false rfl))
    | true =>
      rw [h2] at key
      refine iteF ⟨_, rfl, _, rfl, by omega, _, rfl, _, _, rfl, rfl, _, rfl, ite2 (fun c => ?_) (fun c => ?_)⟩
      · have c' : decide (((Txt.removeprefix z (Str.ofString "-")).length : Int) > m) = true := c
        rw [c'] at key
        exact key false rfl
      · have c' : decide (((Txt.removeprefix z (Str.ofString "-")).length : Int) > m) = false := Bool.eq_false_iff.mpr c
        rw [c'] at key
        refine ⟨_, rfl, rfl, _, rfl, ite2 (fun c => ?_) (fun c => ?_)⟩
        · have e : z = Str.ofString "0" := by injection (of_decide_eq_true c)
          exact key true (by rw [decide_eq_true e]; rfl)
        · have e : z ≠ Str.ofString "0" := fun e => c (decide_eq_true (by rw [e]))
          refine ⟨_, rfl, ⟨_, rfl⟩, _, _, rfl, rfl, _, rfl, ?_⟩
          exact key _ (by rw [decide_eq_false e]; rfl)
def sp_read_integers (K : PySem.W.Frag) : Sp := fun vs H Q _ => ∃ (hd : Str) (ns : List Int) (m : Int), vs = [.str hd, .str (textOf hd ns), .int m] ∧ (∀ n ∈ ns, In18 n) ∧ ns ≠ [] ∧ ns.length ≤ 1000 ∧ hd.length ≤ 100 ∧ (10 : Nat) ∉ TL.tl hd ∧ 18 ≤ m ∧
  ∀ (p : Addr) (H' : Hp), Same H H' → H p = none → H' p = some (.lst (ns.map V.int)) → Q (.ref p) H'
theorem ok_read_integers {f : Addr} {fd : FuncData} (D : Df K mg "read_integers" s_read_integers ["head", "text", "most_digits"] f fd) (T : Txt K mg) {f_is_integer : Addr} {fd_is_integer : FuncData} (D_is_integer : Df K mg "is_integer" s_is_integer ["word", "most_digits"] f_is_integer fd_is_integer) (G_is_integer : FnOk P w K mg base CX0 1 f_is_integer fd_is_integer ["word", "most_digits"] (sp_is_integer K)) : FnOk P w K mg base CX0 2 f fd ["head", "text", "most_digits"] (sp_read_integers K) := by
  refine D.F.ok sc_read_integers (fun vs H Q E h => ?_) (fun cdv A outer s H vs Q E hr h => ?_)
  · obtain ⟨hd, ns, m, rfl, _⟩ := h
    rfl
  obtain ⟨hd, ns, m, rfl, hi, hne, hl, hh, hf, hm, q⟩ := h
  refine ⟨_, (pss_cons (ps_set (i := 3) sc_read_integers.nd rfl (Or.inl rfl) (pe_split (pv 1) pe_str))
    (pss_cons (ps_if (PW.pt (pw_or (pt_cmpR op_ne (pe_callB call_len_seq rfl T.len PySem.boot_len (pa_cons (pv 3) pa_nil)) pe_int (nomark _)) (pw_or (pt_cmpR op_ne (pe_ix ix_list (pv 3) pe_int (fun _ _ => rfl)) (pv 0) (nomark _)) (pw_or1 (pt_cmpR op_ne (pe_ix ix_list (pv 3) pe_int (fun _ _ => rfl)) pe_str (nomark _))))))
      (pss_one ps_never)
      pss_nil)
    (pss_cons (ps_set (i := 4) sc_read_integers.nd rfl (Or.inl rfl) (pe_split (pe_ix ix_list (pv 3) pe_int (fun _ _ => rfl)) pe_str))
    (pss_cons (ps_if (pt_not (pt_val (pe_callB (cr_all rfl) rfl T.all (by decide +kernel) (pa_cons (pe_lc (own := [("word", 5)]) (g := gName 5) (tt := tYes) rfl sc_read_integers.nd (pi_list (pv 4)) (blkOk_by (own := [("word", 5)]) (N := nm_read_integers) (sc := defScope s_read_integers) (by decide +kernel)) (fun _ _ _ _ _ => (pg_name (i := 5) sc_read_integers.nd rfl (Or.inl rfl))) (fun _ _ _ _ _ => pts_nil) (fun _ _ _ _ _ => (pe_call G_is_integer (hr.mono (by decide)) rfl D_is_integer.m D_is_integer.F.kp D_is_integer.b .nil pass0 (pa_cons (pv 5) (pa_cons (pv 2) pa_nil))))) pa_nil))))
      (pss_one ps_never)
      pss_nil)
    (pss_one (ps_ret (pe_lc (own := [("word", 5)]) (g := gName 5) (tt := tYes) rfl sc_read_integers.nd (pi_list (pv 4)) (blkOk_by (own := [("word", 5)]) (N := nm_read_integers) (sc := defScope s_read_integers) (by decide +kernel)) (fun _ _ _ _ _ => (pg_name (i := 5) sc_read_integers.nd rfl (Or.inl rfl))) (fun _ _ _ _ _ => pts_nil) (fun _ _ _ _ _ => (pe_callTy call_int_str rfl T.int (by decide +kernel) (pa_cons (pv 5) pa_nil)))))))))), ?_⟩
  have htl := text_len (hd := hd) hi
  have hjl := joined_len hi
  have hwl := words_len ns
  refine ⟨_, rfl, ⟨_, rfl⟩, _, _, rfl, rfl, by rw [nl_len]; rfl, by rw [show sizeLine = 16777216 from rfl]; omega, fun p1 n1 => ?_⟩
  rw [text_split hf]
  have s1 : Same H (upd H p1 (.lst ([hd, Txt.join (Str.ofString " ") (words ns), Str.ofString ""].map V.str))) := same_upd n1
  have e1 : SqL K (upd H p1 (.lst ([hd, Txt.join (Str.ofString " ") (words ns), Str.ofString ""].map V.str))) p1 ([hd, Txt.join (Str.ofString " ") (words ns), Str.ofString ""].map V.str) := SqL.of upd_same
  refine ⟨_, rfl, _, _, rfl, .inl e1, rfl, _, rfl, iteF ?_⟩
  refine ⟨_, rfl, _, _, _, _, rfl, rfl, e1, at_of (j := 0) rfl rfl, _, rfl, rfl, _, rfl, ?_⟩
  rw [decide_eq_true (rfl : V.str hd = V.str hd)]
  refine iteF ⟨_, rfl, _, _, _, _, rfl, rfl, e1, at_of (j := 2) rfl rfl, rfl, _, rfl, ?_⟩
  rw [decide_eq_true (rfl : V.str (Str.ofString "") = V.str (Str.ofString ""))]
  refine iteF ?_
  refine ⟨_, rfl, _, _, _, _, rfl, rfl, e1, at_of (j := 1) rfl rfl, ⟨_, rfl⟩, _, _, rfl, rfl, by rw [blank_len]; rfl, by rw [show sizeLine = 16777216 from rfl]; omega, fun p2 n2 => ?_⟩
  rw [words_split hne]
  have s2 := s1.trans (same_upd (o := .lst ((words ns).map V.str)) n2)
  have hw2 : ((words ns).map V.str).length = ns.length := by rw [List.length_map, hwl]
  have wget : ∀ {i : Nat} {x : V}, ((words ns).map V.str)[i]? = some x → ∃ hi : i < ns.length, x = V.str (wd ns[i]) := fun {i x} h => by
    have hx := (List.getElem?_eq_some_iff.mp h).1
    rw [hw2] at hx
    refine ⟨hx, ?_⟩
    unfold words at h
    rw [List.map_map, List.getElem?_map, List.getElem?_eq_getElem hx] at h
    exact (Option.some.inj h).symm
  generalize hH2 : upd (upd H p1 (.lst ([hd, Txt.join (Str.ofString " ") (words ns), Str.ofString ""].map V.str))) p2 (.lst ((words ns).map V.str)) = H2 at s2 ⊢
  have e2 : H2 p2 = some (.lst ((words ns).map V.str)) := by rw [← hH2, upd_same]
  refine ⟨_, rfl, p2, rfl, ⟨_, SqL.of e2⟩, fun D hD => lc_list (K := K) (a := p2) (xs := (words ns).map V.str) (fun i H' => Same H2 H' ∧ H' D = some (.lst ((List.replicate i true).map V.bl))) ⟨same_upd hD, upd_same⟩ (fun i H' _ p => SqL.of (p.1 _ _ e2)) ?_ ?_⟩
  · rintro i x H' hx ⟨sm, e⟩
    obtain ⟨hil, rfl⟩ := wget hx
    have hin := hi _ (List.getElem_mem hil)
    have hwl2 := wd_len hin
    refine ⟨rfl, _, rfl, _, rfl, _, _, rfl, sizes (by omega), _, e, by rw [List.length_map, List.length_replicate]; exact sizes' (by omega), fun b u h => ?_, ?_⟩
    · rw [upd_ne (ne_of_none h hD)]
      exact sm b u h
    · rw [upd_same, wd_isInt hin hm, List.replicate_succ', List.map_append]
      rfl
  · rintro H3 ⟨sm, e⟩
    refine ⟨_, List.replicate ((words ns).map V.str).length true, rfl, SqL.of e, _, rfl, ?_⟩
    rw [show (List.replicate ((words ns).map V.str).length true).all id = true from List.all_eq_true.mpr fun x hx => List.eq_of_mem_replicate hx]
    refine iteF ?_
    have e3 := sm _ _ e2
    refine ⟨_, rfl, p2, rfl, ⟨_, SqL.of e3⟩, fun D2 hD2 => lc_list (K := K) (a := p2) (xs := (words ns).map V.str) (fun i H' => Same H3 H' ∧ H' D2 = some (.lst ((ns.take i).map V.int))) ⟨same_upd hD2, upd_same⟩ (fun i H' _ p => SqL.of (p.1 _ _ e3)) ?_ ?_⟩
    · rintro i x H' hx ⟨sm3, e⟩
      obtain ⟨hil, rfl⟩ := wget hx
      have hin := hi _ (List.getElem_mem hil)
      have hwl2 := wd_len hin
      refine ⟨rfl, _, rfl, _, _, rfl, wd_int hin, by omega, _, e, by rw [List.length_map, List.length_take]; exact sizes' (by omega), fun b u h => ?_, ?_⟩
      · rw [upd_ne (ne_of_none h hD2)]
        exact sm3 b u h
      · rw [upd_same, List.take_add_one, List.getElem?_eq_getElem hil, List.map_append]
        rfl
    · rintro H4 ⟨sm4, e⟩
      rw [hw2, List.take_length] at e
      exact q D2 H4 (s2.trans (sm.trans sm4)) ((s2.trans sm).free hD2) e
def sp_take_any (K : PySem.W.Frag) (C : Addr) : Sp := fun vs H Q _ => ∃ (p l : Addr) (v : Int) (rest : List Int), vs = [.ref p] ∧ TkAt C H p l (v :: rest) ∧ ∀ H', But p H H' → TkAt C H' p l rest → Q (.int v) H'
theorem ok_take_any {f : Addr} {fd : FuncData} {C : Addr} (TK : Tk K mg C) (D : Mt K C "take_any" "Taker.take_any" s_take_any ["self"] f fd) (T : Txt K mg) : FnOk P w K mg base CX0 1 f fd ["self"] (sp_take_any K C) := by
  refine D.F.ok sc_take_any (fun vs H Q E h => ?_) (fun cdv A outer s H vs Q E hr h => ?_)
  · obtain ⟨p, l, v, rest, rfl, _⟩ := h
    rfl
  obtain ⟨p, l, v, rest, rfl, ⟨dx, ns, i, hp, hl, hi, hn, hd⟩, q⟩ := h
  refine ⟨_, (pss_cons (ps_if (pt_cmpR op_eq (pe_fld (pv 0) rfl) (pe_callB call_len_seq rfl T.len PySem.boot_len (pa_cons (pe_fld (pv 0) rfl) pa_nil)) (nomark _))
      (pss_one ps_never)
      pss_nil)
    (pss_cons (ps_fldaug (pv 0) pe_int in_add)
    (pss_one (ps_ret (pe_ix ix_list (pe_fld (pv 0) rfl) (pe_op op_sub (pe_fld (pv 0) rfl) pe_int) (fun _ _ => rfl)))))), ?_⟩
  have hil : i < ns.length := by
    rcases Nat.lt_or_ge i ns.length with h | h
    · exact h
    · rw [List.drop_eq_nil_of_le h] at hd
      cases hd
  have hd2 := List.drop_eq_getElem_cons hil
  rw [hd] at hd2
  injection hd2 with hv hr2
  have hlp : l ≠ p := ne_of hl hp (by intro z; cases z)
  refine ⟨_, rfl, p, C, dx, _, _, rfl, hp, TK.cl, TK.nT, tf_tak _ _, _, rfl, p, C, dx, _, _, rfl, hp, TK.cl, TK.nI, tf_int _ _, _, _, rfl, .inl (SqL.of hl), rfl, _, rfl, ?_⟩
  refine ite2 (fun c => absurd (vint_eq c) (by rw [List.length_map]; omega)) (fun c => ?_)
  refine ⟨_, rfl, p, C, dx, _, _, rfl, hp, TK.cl, TK.nT, tf_tak _ _, _, _, rfl, rfl, dx, _, hp, (by rw [tf_eq]; show 2 < 1000; decide), ?_⟩
  have e1 : putF "taken" (V.int ((i : Int) + 1)) (tf l (i : Int)) = tf l (((i + 1 : Nat) : Int)) := by rw [tf_put]; rfl
  rw [e1]
  have hl2 : (upd H p (.ins C dx (tf l (((i + 1 : Nat) : Int))))) l = some (.lst (ns.map V.int)) := by rw [upd_ne hlp]; exact hl
  refine ⟨_, rfl, p, C, dx, _, _, rfl, upd_same, TK.cl, TK.nI, tf_int _ _, _, rfl, p, C, dx, _, _, rfl, upd_same, TK.cl, TK.nT, tf_tak _ _, _, _, rfl, rfl, _, _, _, _, rfl, rfl, SqL.of hl2, at_of (j := i) (v := V.int v) (by omega) (by rw [List.getElem?_map, List.getElem?_eq_getElem hil, hv]; rfl), ?_⟩
  exact q _ But.set ⟨dx, ns, i + 1, upd_same, hl2, hil, hn, hr2.symm⟩
def sp_take_number (K : PySem.W.Frag) (C : Addr) : Sp := fun vs H Q _ => ∃ (p l : Addr) (v : Int) (rest : List Int), vs = [.ref p] ∧ TkAt C H p l (v :: rest) ∧ 0 ≤ v ∧ ∀ H', But p H H' → TkAt C H' p l rest → Q (.int v) H'
theorem ok_take_number {f : Addr} {fd : FuncData} {C : Addr} (TK : Tk K mg C) (D : Mt K C "take_number" "Taker.take_number" s_take_number ["self"] f fd) (T : Txt K mg) {f_take_any : Addr} {fd_take_any : FuncData} (M_take_any : Mt K C "take_any" "Taker.take_any" s_take_any ["self"] f_take_any fd_take_any) (G_take_any : FnOk P w K mg base CX0 1 f_take_any fd_take_any ["self"] (sp_take_any K C)) : FnOk P w K mg base CX0 2 f fd ["self"] (sp_take_number K C) := by
  refine D.F.ok sc_take_number (fun vs H Q E h => ?_) (fun cdv A outer s H vs Q E hr h => ?_)
  · obtain ⟨p, l, v, rest, rfl, _⟩ := h
    rfl
  obtain ⟨p, l, v, rest, rfl, ht, hv, q⟩ := h
  refine ⟨_, (pss_cons (ps_set (i := 1) sc_take_number.nd rfl (Or.inl rfl) (pe_meth0 (pv 0) TK.cl M_take_any.m G_take_any (hr.mono (by decide)) M_take_any.b .nil pass0))
    (pss_cons (ps_if (pt_cmpR op_lt (pv 1) pe_int (nomark _))
      (pss_one ps_never)
      pss_nil)
    (pss_one (ps_ret (pv 1))))), ?_⟩
  have ht0 := ht
  obtain ⟨dx, ns, i, hp, _⟩ := ht
  refine ⟨_, rfl, p, dx, _, rfl, hp, tf_no _ _ (by decide +kernel) (by decide +kernel), p, l, v, rest, rfl, ht0, fun H1 b1 t1 => ?_⟩
  refine ⟨_, rfl, _, _, rfl, rfl, _, rfl, ite2 (fun c => absurd (of_decide_eq_true c) (by omega)) (fun c => ?_)⟩
  exact ⟨_, rfl, q H1 b1 t1⟩
def sp_take_length (K : PySem.W.Frag) (C : Addr) : Sp := fun vs H Q _ => ∃ (p l : Addr) (n : Nat) (rest : List Int), vs = [.ref p] ∧ TkAt C H p l ((n : Int) :: rest) ∧ n ≤ rest.length ∧ ∀ H', But p H H' → TkAt C H' p l rest → Q (.int (n : Int)) H'
theorem ok_take_length {f : Addr} {fd : FuncData} {C : Addr} (TK : Tk K mg C) (D : Mt K C "take_length" "Taker.take_length" s_take_length ["self"] f fd) (T : Txt K mg) {f_take_number : Addr} {fd_take_number : FuncData} (M_take_number : Mt K C "take_number" "Taker.take_number" s_take_number ["self"] f_take_number fd_take_number) (G_take_number : FnOk P w K mg base CX0 2 f_take_number fd_take_number ["self"] (sp_take_number K C)) : FnOk P w K mg base CX0 3 f fd ["self"] (sp_take_length K C) := by
  refine D.F.ok sc_take_length (fun vs H Q E h => ?_) (fun cdv A outer s H vs Q E hr h => ?_)
  · obtain ⟨p, l, v, rest, rfl, _⟩ := h
    rfl
  obtain ⟨p, l, n, rest, rfl, ht, hn, q⟩ := h
  refine ⟨_, (pss_cons (ps_set (i := 1) sc_take_length.nd rfl (Or.inl rfl) (pe_meth0 (pv 0) TK.cl M_take_number.m G_take_number (hr.mono (by decide)) M_take_number.b .nil pass0))
    (pss_cons (ps_if (pt_cmpR op_gt (pv 1) (pe_op op_sub (pe_callB call_len_seq rfl T.len PySem.boot_len (pa_cons (pe_fld (pv 0) rfl) pa_nil)) (pe_fld (pv 0) rfl)) (nomark _))
      (pss_one ps_never)
      pss_nil)
    (pss_one (ps_ret (pv 1))))), ?_⟩
  have ht0 := ht
  obtain ⟨dx, ns, i, hp, _⟩ := ht
  refine ⟨_, rfl, p, dx, _, rfl, hp, tf_no _ _ (by decide +kernel) (by decide +kernel), p, l, _, rest, rfl, ht0, by omega, fun H1 b1 t1 => ?_⟩
  have t10 := t1
  obtain ⟨dx1, ns1, i1, hp1, hl1, hi1, hn1, hd1⟩ := t1
  have hlen : ns1.length - i1 = rest.length := by rw [← hd1, List.length_drop]
  refine ⟨_, rfl, _, rfl, p, C, dx1, _, _, rfl, hp1, TK.cl, TK.nI, tf_int _ _, _, _, rfl, .inl (SqL.of hl1), _, rfl, p, C, dx1, _, _, rfl, hp1, TK.cl, TK.nT, tf_tak _ _, _, _, rfl, rfl, _, _, rfl, rfl, _, rfl, ?_⟩
  refine ite2 (fun c => absurd (of_decide_eq_true c) (by rw [List.length_map]; omega)) (fun c => ?_)
  exact ⟨_, rfl, q H1 b1 t10⟩
def sp_take_numbers (K : PySem.W.Frag) (C : Addr) : Sp := fun vs H Q _ => ∃ (p l : Addr) (ns rest : List Int), vs = [.ref p] ∧ TkAt C H p l (numSeq ns ++ rest) ∧ (∀ n ∈ ns, 0 ≤ n) ∧ ∀ (u : Addr) (H' : Hp), But p H H' → H u = none → H' u = some (.lst (ns.map V.int)) → TkAt C H' p l rest → Q (.ref u) H'
theorem ok_take_numbers {f : Addr} {fd : FuncData} {C : Addr} (TK : Tk K mg C) (D : Mt K C "take_numbers" "Taker.take_numbers" s_take_numbers ["self"] f fd) (T : Txt K mg) {f_take_number : Addr} {fd_take_number : FuncData} (M_take_number : Mt K C "take_number" "Taker.take_number" s_take_number ["self"] f_take_number fd_take_number) (G_take_number : FnOk P w K mg base CX0 2 f_take_number fd_take_number ["self"] (sp_take_number K C)) {f_take_length : Addr} {fd_take_length : FuncData} (M_take_length : Mt K C "take_length" "Taker.take_length" s_take_length ["self"] f_take_length fd_take_length) (G_take_length : FnOk P w K mg base CX0 3 f_take_length fd_take_length ["self"] (sp_take_length K C)) : FnOk P w K mg base CX0 4 f fd ["self"] (sp_take_numbers K C) := by
  refine D.F.ok sc_take_numbers (fun vs H Q E h => ?_) (fun cdv A outer s H vs Q E hr h => ?_)
  · obtain ⟨p, l, v, rest, rfl, _⟩ := h
    rfl
  obtain ⟨p, l, ns, rest, rfl, ht, hnn, q⟩ := h
  refine ⟨_, (pss_one (ps_ret (pe_lc (own := [("_", 1)]) (g := gName 1) (tt := tYes) rfl sc_take_numbers.nd (pi_range1 rfl T.range (pa_cons (pe_meth0 (pv 0) TK.cl M_take_length.m G_take_length (hr.mono (by decide)) M_take_length.b .nil pass0) pa_nil)) (blkOk_by (own := [("_", 1)]) (N := nm_take_numbers) (sc := defScope s_take_numbers) (by decide +kernel)) (fun _ _ _ _ _ => (pg_name (i := 1) sc_take_numbers.nd rfl (Or.inl rfl))) (fun _ _ _ _ _ => pts_nil) (fun _ _ _ _ _ => (pe_meth0 (pv 0) TK.cl M_take_number.m G_take_number (hr.mono (by decide)) M_take_number.b .nil pass0))))), ?_⟩
  have ht0 := ht
  have hlen := ht.len
  obtain ⟨dx, ns0, i0, hp, hl, _⟩ := ht
  have hns : ns.length ≤ 1000 := by unfold numSeq at hlen; simp only [List.length_append, List.length_cons] at hlen; omega
  refine ⟨_, rfl, p, dx, _, rfl, hp, tf_no _ _ (by decide +kernel) (by decide +kernel), p, l, ns.length, ns ++ rest, rfl, ht0, by rw [List.length_append]; omega, fun H1 b1 t1 => ?_⟩
  have t10 := t1
  obtain ⟨dx1, ns1, i1, hp1, hl1, _⟩ := t1
  refine ⟨_, rfl, by omega, by omega, fun D hD => lc_range (lo := 0) (n := (((ns.length : Nat) : Int)).toNat) (fun i H' => But p H1 H' ∧ H' D = some (.lst ((ns.take i).map V.int)) ∧ TkAt C H' p l (ns.drop i ++ rest)) ⟨But.of (same_upd hD), upd_same, t10.keep (same_upd hD)⟩ ?_ ?_⟩
  · have nDp : D ≠ p := (ne_of_none hp1 hD).symm
    have nDl : D ≠ l := (ne_of_none hl1 hD).symm
    rintro i H' hi ⟨b2, eD, t2⟩
    have hil : i < ns.length := by omega
    have t20 := t2
    obtain ⟨dx2, ns2, i2, hp2, _⟩ := t2
    rw [List.drop_eq_getElem_cons hil] at t20
    refine ⟨rfl, _, rfl, p, dx2, _, rfl, hp2, tf_no _ _ (by decide +kernel) (by decide +kernel), p, l, ns[i], ns.drop (i + 1) ++ rest, rfl, t20, hnn _ (List.getElem_mem hil), fun H3 b3 t3 => ?_⟩
    have eD3 := b3 _ _ nDp eD
    refine ⟨_, eD3, by rw [List.length_map, List.length_take]; exact sizes' (by omega), fun c w hc hw => ?_, ?_, t3.but But.set nDp nDl⟩
    · have h3 := b3 c w hc (b2 c w hc hw)
      by_cases hcD : c = D
      · rw [hcD, hD] at hw
        cases hw
      · rw [upd_ne hcD]
        exact h3
    · rw [upd_same, List.take_add_one, List.getElem?_eq_getElem hil, List.map_append]
      rfl
  · rintro H' ⟨b2, eD, t2⟩
    rw [show (((ns.length : Nat) : Int)).toNat = ns.length from by omega, List.take_length] at eD
    rw [show (((ns.length : Nat) : Int)).toNat = ns.length from by omega, List.drop_length, List.nil_append] at t2
    have nDp : D ≠ p := (ne_of_none hp1 hD).symm
    refine q D H' (b1.trans b2) ?_ eD t2
    cases e : H D with
    | none => rfl
    | some w => rw [b1 _ _ nDp e] at hD; cases hD
theorem dn_is {i j : Nat} {z w : Str} (h : deedNames[j]? = some z) (h2 : deedNames[i]? = some w) : z = w ↔ j = i := by
  refine ⟨fun e => nd_ix dn_nodup (x := z) h (by rw [e]; exact h2), fun e => ?_⟩
  rw [e, h2] at h
  exact (Option.some.inj h).symm
theorem str_eq {a b : Str} (c : decide (V.str a = V.str b) = true) : a = b := by injection (of_decide_eq_true c)
theorem str_ne {a b : Str} (c : ¬ decide (V.str a = V.str b) = true) : a ≠ b := fun e => c (decide_eq_true (by rw [e]))
theorem ar_other {p : Nat} (h : p < 9) (h0 : p ≠ 0) (h4 : p ≠ 4) (h7 : p ≠ 7) (h2 : p ≠ 2) (h8 : p ≠ 8) : arity p = 2 := by
  have : p = 1 ∨ p = 3 ∨ p = 5 ∨ p = 6 := by omega
  rcases this with e | e | e | e <;> rw [e] <;> rfl
theorem three_of {ns : List Int} (h : ns.length = 3) : ∃ x y z, ns = [x, y, z] := by
  match ns, h with
  | [x, y, z], _ => exact ⟨x, y, z, rfl⟩
def sp_take_deed (K : PySem.W.Frag) (C : Addr) : Sp := fun vs H Q _ => ∃ (p l : Addr) (d : Dd) (rest : List Int), vs = [.ref p] ∧ TkAt C H p l (numD d ++ rest) ∧ d.Ok ∧ ∀ (a : Addr) (H' : Hp), But p H H' → DdAt K H' a d → TkAt C H' p l rest → Q (.ref a) H'
theorem ok_take_deed {f : Addr} {fd : FuncData} {C : Addr} (TK : Tk K mg C) (D : Df K mg "take_deed" s_take_deed ["taker"] f fd) (T : Txt K mg) {aD : Addr} (DS : Deeds K mg aD) {f_take_any : Addr} {fd_take_any : FuncData} (M_take_any : Mt K C "take_any" "Taker.take_any" s_take_any ["self"] f_take_any fd_take_any) (G_take_any : FnOk P w K mg base CX0 1 f_take_any fd_take_any ["self"] (sp_take_any K C)) {f_take_number : Addr} {fd_take_number : FuncData} (M_take_number : Mt K C "take_number" "Taker.take_number" s_take_number ["self"] f_take_number fd_take_number) (G_take_number : FnOk P w K mg base CX0 2 f_take_number fd_take_number ["self"] (sp_take_number K C)) {f_take_numbers : Addr} {fd_take_numbers : FuncData} (M_take_numbers : Mt K C "take_numbers" "Taker.take_numbers" s_take_numbers ["self"] f_take_numbers fd_take_numbers) (G_take_numbers : FnOk P w K mg base CX0 4 f_take_numbers fd_take_numbers ["self"] (sp_take_numbers K C)) : FnOk P w K mg base CX0 5 f fd ["taker"] (sp_take_deed K C) := by
  refine D.F.ok sc_take_deed (fun vs H Q E h => ?_) (fun cdv A outer s H vs Q E hr h => ?_)
  · obtain ⟨p, l, d, rest, rfl, _⟩ := h
    rfl
  obtain ⟨p, l, ⟨pl, nums⟩, rest, rfl, ht, hk, q⟩ := h
  refine ⟨_, (pss_cons (ps_set (i := 1) sc_take_deed.nd rfl (Or.inl rfl) (pe_meth0 (pv 0) TK.cl M_take_number.m G_take_number (hr.mono (by decide)) M_take_number.b .nil pass0))
    (pss_cons (ps_if (pt_cmpR op_ge (pv 1) (pe_callB call_len_seq rfl T.len PySem.boot_len (pa_cons (pe_glob (v := V.ref aD) rfl DS.m rfl) pa_nil)) (nomark _))
      (pss_one ps_never)
      pss_nil)
    (pss_cons (ps_set (i := 2) sc_take_deed.nd rfl (Or.inl rfl) (pe_ix ix_tup (pe_glob (v := V.ref aD) rfl DS.m rfl) (pv 1) (fun _ _ => rfl)))
    (pss_cons (ps_if (pt_cmpR op_eq (pv 2) pe_str (nomark _))
      (pss_one (ps_ret (pe_tup (pa_cons (pv 2) pa_nil))))
      pss_nil)
    (pss_cons (ps_if (pt_cmpR op_eq (pv 2) pe_str (nomark _))
      (pss_one (ps_ret (pe_tup (pa_cons (pv 2) (pa_cons (pe_meth0 (pv 0) TK.cl M_take_number.m G_take_number (hr.mono (by decide)) M_take_number.b .nil pass0) pa_nil)))))
      pss_nil)
    (pss_cons (ps_if (pt_cmpR op_eq (pv 2) pe_str (nomark _))
      (pss_one (ps_ret (pe_tup (pa_cons (pv 2) (pa_cons (pe_meth0 (pv 0) TK.cl M_take_any.m G_take_any (hr.mono (by decide)) M_take_any.b .nil pass0) pa_nil)))))
      pss_nil)
    (pss_cons (ps_if (pt_cmpR op_eq (pv 2) pe_str (nomark _))
      (pss_one (ps_ret (pe_tup (pa_cons (pv 2) (pa_cons (pe_meth0 (pv 0) TK.cl M_take_number.m G_take_number (hr.mono (by decide)) M_take_number.b .nil pass0) (pa_cons (pe_meth0 (pv 0) TK.cl M_take_number.m G_take_number (hr.mono (by decide)) M_take_number.b .nil pass0) (pa_cons (pe_meth0 (pv 0) TK.cl M_take_any.m G_take_any (hr.mono (by decide)) M_take_any.b .nil pass0) pa_nil)))))))
      pss_nil)
    (pss_cons (ps_if (pt_cmpR op_eq (pv 2) pe_str (nomark _))
      (pss_one (ps_ret (pe_tup (pa_cons (pv 2) (pa_cons (pe_callTy call_tuple_of rfl T.tuple (by decide +kernel) (pa_cons (pe_meth0 (pv 0) TK.cl M_take_numbers.m G_take_numbers (hr.mono (by decide)) M_take_numbers.b .nil pass0) pa_nil)) pa_nil)))))
      pss_nil)
    (pss_one (ps_ret (pe_tup (pa_cons (pv 2) (pa_cons (pe_meth0 (pv 0) TK.cl M_take_number.m G_take_number (hr.mono (by decide)) M_take_number.b .nil pass0) (pa_cons (pe_meth0 (pv 0) TK.cl M_take_number.m G_take_number (hr.mono (by decide)) M_take_number.b .nil pass0) pa_nil)))))))))))))), ?_⟩
  have ht0 := ht
  obtain ⟨dx, ns, i, hp, _⟩ := ht
  have hpl : pl < 9 := hk.pl
  have hz : deedNames[pl]? = some (deedNames[pl]'(by rw [dn_len]; exact hpl)) := List.getElem?_eq_getElem _
  generalize (deedNames[pl]'(by rw [dn_len]; exact hpl)) = z at hz
  have hz' : (deedNames.map V.str)[pl]? = some (V.str z) := by rw [List.getElem?_map, hz]; rfl
  refine ⟨_, rfl, p, dx, _, rfl, hp, tf_no _ _ (by decide +kernel) (by decide +kernel), p, l, (pl : Int), _, rfl, ht0, by omega, fun H1 b1 t1 => ?_⟩
  refine ⟨_, rfl, _, _, rfl, .inr (DS.sq _), _, _, rfl, rfl, _, rfl, ite2 (fun c => absurd (of_decide_eq_true c) (by rw [List.length_map, dn_len]; omega)) (fun c => ?_)⟩
  refine ⟨_, rfl, _, _, _, _, rfl, rfl, DS.sq _, at_of (j := pl) rfl hz', ?_⟩
  have ins : ∀ {H : Hp} {rs : List Int}, TkAt C H p l rs → ∃ dx i, H p = some (.ins C dx (tf l i)) := fun ⟨dx, _, i, h, _⟩ => ⟨dx, _, h⟩
  have tot : ∀ (H2 : Hp) (r : Addr) (xs : List V), H2 r = none → But p H H2 → TkAt C H2 p l rest → (pl ≠ 8 → xs = V.str z :: nums.map V.int) → (pl = 8 → ∃ b, xs = [V.str z, V.ref b] ∧ TupI K H2 b nums) → Q (.ref r) (upd H2 r (.tup xs)) := fun H2 r xs hr2 b2 t2 h1 h2 => by
    have s2 : Same H2 (upd H2 r (.tup xs)) := same_upd hr2
    refine q r _ (b2.trans (But.of s2)) ?_ (t2.keep s2)
    by_cases h8 : pl = 8
    · obtain ⟨b, rfl, hb⟩ := h2 h8
      exact ⟨z, _, hz, SqT.of upd_same, .inl ⟨h8, b, rfl, hb.keep s2⟩⟩
    · rw [h1 h8]
      exact ⟨z, _, hz, SqT.of upd_same, .inr ⟨h8, rfl⟩⟩
  refine ⟨_, rfl, rfl, _, rfl, ite2 (fun c => ?_) (fun c0 => ?_)⟩
  · have e := (dn_is hz (i := 0) rfl).mp (str_eq c)
    subst e
    have hn : nums = [] := List.length_eq_zero_iff.mp (hk.ar (of_decide_eq_true rfl))
    subst hn
    exact ⟨_, rfl, (by show 1 ≤ sizeLine; decide), fun r hr2 => tot H1 r _ hr2 b1 t1 (fun _ => rfl) (fun h => absurd h (by decide))⟩
  refine ⟨_, rfl, rfl, _, rfl, ite2 (fun c => ?_) (fun c4 => ?_)⟩
  · have e := (dn_is hz (i := 4) rfl).mp (str_eq c)
    subst e
    obtain ⟨x, rfl⟩ := one_of (hk.ar (of_decide_eq_true rfl))
    obtain ⟨dx1, i1, hp1⟩ := ins t1
    have hx := hk.nt 0 x rfl (fun m => m.elim (fun h => absurd (show (4 : Nat) = 2 from h.1) (by decide)) (fun h => absurd (show (4 : Nat) = 7 from h) (by decide)))
    refine ⟨_, rfl, _, rfl, p, dx1, _, rfl, hp1, tf_no _ _ (by decide +kernel) (by decide +kernel), p, l, x, rest, rfl, t1, hx, fun H2 b2 t2 => ?_⟩
    exact ⟨(by show 2 ≤ sizeLine; decide), fun r hr2 => tot H2 r _ hr2 (b1.trans b2) t2 (fun _ => rfl) (fun h => absurd h (by decide))⟩
  refine ⟨_, rfl, rfl, _, rfl, ite2 (fun c => ?_) (fun c7 => ?_)⟩
  · have e := (dn_is hz (i := 7) rfl).mp (str_eq c)
    subst e
    obtain ⟨x, rfl⟩ := one_of (hk.ar (of_decide_eq_true rfl))
    obtain ⟨dx1, i1, hp1⟩ := ins t1
    refine ⟨_, rfl, _, rfl, p, dx1, _, rfl, hp1, tf_no _ _ (by decide +kernel) (by decide +kernel), p, l, x, rest, rfl, t1, fun H2 b2 t2 => ?_⟩
    exact ⟨(by show 2 ≤ sizeLine; decide), fun r hr2 => tot H2 r _ hr2 (b1.trans b2) t2 (fun _ => rfl) (fun h => absurd h (by decide))⟩
  refine ⟨_, rfl, rfl, _, rfl, ite2 (fun c => ?_) (fun c2 => ?_)⟩
  · have e := (dn_is hz (i := 2) rfl).mp (str_eq c)
    subst e
    obtain ⟨x, y, u, rfl⟩ := three_of (hk.ar (of_decide_eq_true rfl))
    obtain ⟨dx1, i1, hp1⟩ := ins t1
    have hx := hk.nt 0 x rfl (fun m => m.elim (fun h => absurd h.2 (by decide)) (fun h => absurd (show (2 : Nat) = 7 from h) (by decide)))
    have hy := hk.nt 1 y rfl (fun m => m.elim (fun h => absurd h.2 (by decide)) (fun h => absurd (show (2 : Nat) = 7 from h) (by decide)))
    refine ⟨_, rfl, _, rfl, p, dx1, _, rfl, hp1, tf_no _ _ (by decide +kernel) (by decide +kernel), p, l, x, y :: u :: rest, rfl, t1, hx, fun H2 b2 t2 => ?_⟩
    obtain ⟨dx2, i2, hp2⟩ := ins t2
    refine ⟨_, rfl, p, dx2, _, rfl, hp2, tf_no _ _ (by decide +kernel) (by decide +kernel), p, l, y, u :: rest, rfl, t2, hy, fun H3 b3 t3 => ?_⟩
    obtain ⟨dx3, i3, hp3⟩ := ins t3
    refine ⟨_, rfl, p, dx3, _, rfl, hp3, tf_no _ _ (by decide +kernel) (by decide +kernel), p, l, u, rest, rfl, t3, fun H4 b4 t4 => ?_⟩
    exact ⟨(by show 4 ≤ sizeLine; decide), fun r hr2 => tot H4 r _ hr2 (b1.trans (b2.trans (b3.trans b4))) t4 (fun _ => rfl) (fun h => absurd h (by decide))⟩
  refine ⟨_, rfl, rfl, _, rfl, ite2 (fun c => ?_) (fun c8 => ?_)⟩
  · have e := (dn_is hz (i := 8) rfl).mp (str_eq c)
    subst e
    obtain ⟨dx1, i1, hp1⟩ := ins t1
    refine ⟨_, rfl, _, rfl, p, dx1, _, rfl, hp1, tf_no _ _ (by decide +kernel) (by decide +kernel), p, l, nums, rest, rfl, t1, ?_, fun u H2 b2 nu eu t2 => ?_⟩
    · intro n hn
      obtain ⟨j, hj⟩ := List.getElem?_of_mem hn
      exact hk.nt j n hj (fun m => m.elim (fun h => absurd (show (8 : Nat) = 2 from h.1) (by decide)) (fun h => absurd (show (8 : Nat) = 7 from h) (by decide)))
    · refine ⟨_, _, rfl, .inl ⟨SqL.of eu, fun t ht2 => ?_⟩⟩
      have s2 : Same H2 (upd H2 t (.tup (nums.map V.int))) := same_upd ht2
      exact ⟨(by show 2 ≤ sizeLine; decide), fun r hr2 => tot _ r _ hr2 ((b1.trans b2).trans (But.of s2)) (t2.keep s2) (fun h => absurd rfl h) (fun _ => ⟨t, rfl, SqT.of upd_same⟩)⟩
  have n0 : pl ≠ 0 := fun e => str_ne c0 ((dn_is hz (i := 0) rfl).mpr e)
  have n4 : pl ≠ 4 := fun e => str_ne c4 ((dn_is hz (i := 4) rfl).mpr e)
  have n7 : pl ≠ 7 := fun e => str_ne c7 ((dn_is hz (i := 7) rfl).mpr e)
  have n2 : pl ≠ 2 := fun e => str_ne c2 ((dn_is hz (i := 2) rfl).mpr e)
  have n8 : pl ≠ 8 := fun e => str_ne c8 ((dn_is hz (i := 8) rfl).mpr e)
  obtain ⟨x, y, rfl⟩ := two_of ((hk.ar n8).trans (ar_other hpl n0 n4 n7 n2 n8))
  obtain ⟨dx1, i1, hp1⟩ := ins t1
  have hm : ∀ j, ¬ mayNeg pl j := fun j => by rintro (⟨h, _⟩ | h); exact n2 h; exact n7 h
  have hx := hk.nt 0 x rfl (hm 0)
  have hy := hk.nt 1 y rfl (hm 1)
  have t1' : TkAt C H1 p l (x :: y :: rest) := by
    have e : (if pl = 8 then numSeq [x, y] else [x, y]) = [x, y] := if_neg n8
    have t1'' : TkAt C H1 p l ((if pl = 8 then numSeq [x, y] else [x, y]) ++ rest) := t1
    rw [e] at t1''
    exact t1''
  refine ⟨_, rfl, _, rfl, p, dx1, _, rfl, hp1, tf_no _ _ (by decide +kernel) (by decide +kernel), p, l, x, y :: rest, rfl, t1', hx, fun H2 b2 t2 => ?_⟩
  obtain ⟨dx2, i2, hp2⟩ := ins t2
  refine ⟨_, rfl, p, dx2, _, rfl, hp2, tf_no _ _ (by decide +kernel) (by decide +kernel), p, l, y, rest, rfl, t2, hy, fun H3 b3 t3 => ?_⟩
  exact ⟨(by show 3 ≤ sizeLine; decide), fun r hr2 => tot H3 r _ hr2 (b1.trans (b2.trans b3)) t3 (fun _ => rfl) (fun h => absurd h n8)⟩
def sp_take_flag (K : PySem.W.Frag) (C : Addr) : Sp := fun vs H Q _ => ∃ (p l : Addr) (b : Bool) (rest : List Int), vs = [.ref p] ∧ TkAt C H p l (b2n b :: rest) ∧ ∀ H', But p H H' → TkAt C H' p l rest → Q (.bl b) H'
theorem ok_take_flag {f : Addr} {fd : FuncData} {C : Addr} (TK : Tk K mg C) (D : Mt K C "take_flag" "Taker.take_flag" s_take_flag ["self"] f fd) (T : Txt K mg) {f_take_any : Addr} {fd_take_any : FuncData} (M_take_any : Mt K C "take_any" "Taker.take_any" s_take_any ["self"] f_take_any fd_take_any) (G_take_any : FnOk P w K mg base CX0 1 f_take_any fd_take_any ["self"] (sp_take_any K C)) : FnOk P w K mg base CX0 2 f fd ["self"] (sp_take_flag K C) := by
  refine D.F.ok sc_take_flag (fun vs H Q E h => ?_) (fun cdv A outer s H vs Q E hr h => ?_)
  · obtain ⟨p, l, v, rest, rfl, _⟩ := h
    rfl
  obtain ⟨p, l, b, rest, rfl, ht, q⟩ := h
  refine ⟨_, (pss_cons (ps_set (i := 1) sc_take_flag.nd rfl (Or.inl rfl) (pe_meth0 (pv 0) TK.cl M_take_any.m G_take_any (hr.mono (by decide)) M_take_any.b .nil pass0))
    (pss_cons (ps_if (pt_cmpR op_notIn_seq (pv 1) (pe_tup (pa_cons pe_int (pa_cons pe_int pa_nil))) (by rfl))
      (pss_one ps_never)
      pss_nil)
    (pss_one (ps_ret (pe_cmpR op_eq (pv 1) pe_int (nomark _)))))), ?_⟩
  have ht0 := ht
  obtain ⟨dx, ns, i, hp, _⟩ := ht
  refine ⟨_, rfl, p, dx, _, rfl, hp, tf_no _ _ (by decide +kernel) (by decide +kernel), p, l, _, rest, rfl, ht0, fun H1 b1 t1 => ?_⟩
  refine ⟨_, rfl, (by show 2 ≤ sizeLine; decide), fun u hu => ⟨u, [V.int 0, V.int 1], rfl, .inr (SqT.of upd_same), rfl, rfl, _, rfl, ?_⟩⟩
  have s2 : Same H1 (upd H1 u (.tup [V.int 0, V.int 1])) := same_upd hu
  have fin := q _ (b1.trans (But.of s2)) (t1.keep s2)
  cases b with
  | true =>
    refine iteF ⟨_, rfl, rfl, ?_⟩
    exact fin
  | false =>
    refine iteF ⟨_, rfl, rfl, ?_⟩
    exact fin
def sp_take_anys (K : PySem.W.Frag) (C : Addr) : Sp := fun vs H Q _ => ∃ (p l : Addr) (ns rest : List Int), vs = [.ref p] ∧ TkAt C H p l (numSeq ns ++ rest) ∧ ∀ (u : Addr) (H' : Hp), But p H H' → H u = none → H' u = some (.lst (ns.map V.int)) → TkAt C H' p l rest → Q (.ref u) H'
theorem ok_take_anys {f : Addr} {fd : FuncData} {C : Addr} (TK : Tk K mg C) (D : Mt K C "take_anys" "Taker.take_anys" s_take_anys ["self"] f fd) (T : Txt K mg) {f_take_any : Addr} {fd_take_any : FuncData} (M_take_any : Mt K C "take_any" "Taker.take_any" s_take_any ["self"] f_take_any fd_take_any) (G_take_any : FnOk P w K mg base CX0 1 f_take_any fd_take_any ["self"] (sp_take_any K C)) {f_take_length : Addr} {fd_take_length : FuncData} (M_take_length : Mt K C "take_length" "Taker.take_length" s_take_length ["self"] f_take_length fd_take_length) (G_take_length : FnOk P w K mg base CX0 3 f_take_length fd_take_length ["self"] (sp_take_length K C)) : FnOk P w K mg base CX0 4 f fd ["self"] (sp_take_anys K C) := by
  refine D.F.ok sc_take_anys (fun vs H Q E h => ?_) (fun cdv A outer s H vs Q E hr h => ?_)
  · obtain ⟨p, l, v, rest, rfl, _⟩ := h
    rfl
  obtain ⟨p, l, ns, rest, rfl, ht, q⟩ := h
  refine ⟨_, (pss_one (ps_ret (pe_lc (own := [("_", 1)]) (g := gName 1) (tt := tYes) rfl sc_take_anys.nd (pi_range1 rfl T.range (pa_cons (pe_meth0 (pv 0) TK.cl M_take_length.m G_take_length (hr.mono (by decide)) M_take_length.b .nil pass0) pa_nil)) (blkOk_by (own := [("_", 1)]) (N := nm_take_anys) (sc := defScope s_take_anys) (by decide +kernel)) (fun _ _ _ _ _ => (pg_name (i := 1) sc_take_anys.nd rfl (Or.inl rfl))) (fun _ _ _ _ _ => pts_nil) (fun _ _ _ _ _ => (pe_meth0 (pv 0) TK.cl M_take_any.m G_take_any (hr.mono (by decide)) M_take_any.b .nil pass0))))), ?_⟩
  have ht0 := ht
  have hlen := ht.len
  obtain ⟨dx, ns0, i0, hp, hl, _⟩ := ht
  have hns : ns.length ≤ 1000 := by unfold numSeq at hlen; simp only [List.length_append, List.length_cons] at hlen; omega
  refine ⟨_, rfl, p, dx, _, rfl, hp, tf_no _ _ (by decide +kernel) (by decide +kernel), p, l, ns.length, ns ++ rest, rfl, ht0, by rw [List.length_append]; omega, fun H1 b1 t1 => ?_⟩
  have t10 := t1
  obtain ⟨dx1, ns1, i1, hp1, hl1, _⟩ := t1
  refine ⟨_, rfl, by omega, by omega, fun D hD => lc_range (lo := 0) (n := (((ns.length : Nat) : Int)).toNat) (fun i H' => But p H1 H' ∧ H' D = some (.lst ((ns.take i).map V.int)) ∧ TkAt C H' p l (ns.drop i ++ rest)) ⟨But.of (same_upd hD), upd_same, t10.keep (same_upd hD)⟩ ?_ ?_⟩
  · have nDp : D ≠ p := (ne_of_none hp1 hD).symm
    have nDl : D ≠ l := (ne_of_none hl1 hD).symm
    rintro i H' hi ⟨b2, eD, t2⟩
    have hil : i < ns.length := by omega
    have t20 := t2
    obtain ⟨dx2, ns2, i2, hp2, _⟩ := t2
    rw [List.drop_eq_getElem_cons hil] at t20
    refine ⟨rfl, _, rfl, p, dx2, _, rfl, hp2, tf_no _ _ (by decide +kernel) (by decide +kernel), p, l, ns[i], ns.drop (i + 1) ++ rest, rfl, t20, fun H3 b3 t3 => ?_⟩
    have eD3 := b3 _ _ nDp eD
    refine ⟨_, eD3, by rw [List.length_map, List.length_take]; exact sizes' (by omega), fun c w hc hw => ?_, ?_, t3.but But.set nDp nDl⟩
    · have h3 := b3 c w hc (b2 c w hc hw)
      by_cases hcD : c = D
      · rw [hcD, hD] at hw
        cases hw
      · rw [upd_ne hcD]
        exact h3
    · rw [upd_same, List.take_add_one, List.getElem?_eq_getElem hil, List.map_append]
      rfl
  · rintro H' ⟨b2, eD, t2⟩
    rw [show (((ns.length : Nat) : Int)).toNat = ns.length from by omega, List.take_length] at eD
    rw [show (((ns.length : Nat) : Int)).toNat = ns.length from by omega, List.drop_length, List.nil_append] at t2
    have nDp : D ≠ p := (ne_of_none hp1 hD).symm
    refine q D H' (b1.trans b2) ?_ eD t2
    cases e : H D with
    | none => rfl
    | some w => rw [b1 _ _ nDp e] at hD; cases hD
theorem numE_app (e : Ev) (rest : List Int) : numE e ++ rest = b2n e.asleep :: (numSeq e.shown ++ (numSeq e.after ++ (numD e.deed ++ (numSeq e.knows ++ rest)))) := by
  unfold numE
  simp only [List.append_assoc]
  rfl
def sp_take_event (K : PySem.W.Frag) (C : Addr) : Sp := fun vs H Q _ => ∃ (p l : Addr) (e : Ev) (rest : List Int), vs = [.ref p] ∧ TkAt C H p l (numE e ++ rest) ∧ e.Ok ∧ ∀ (a : Addr) (H' : Hp), But p H H' → EvAt K H' a e → TkAt C H' p l rest → Q (.ref a) H'
theorem ok_take_event {f : Addr} {fd : FuncData} {C : Addr} (TK : Tk K mg C) (D : Df K mg "take_event" s_take_event ["taker"] f fd) (T : Txt K mg) {f_take_deed : Addr} {fd_take_deed : FuncData} (D_take_deed : Df K mg "take_deed" s_take_deed ["taker"] f_take_deed fd_take_deed) (G_take_deed : FnOk P w K mg base CX0 5 f_take_deed fd_take_deed ["taker"] (sp_take_deed K C)) {f_take_flag : Addr} {fd_take_flag : FuncData} (M_take_flag : Mt K C "take_flag" "Taker.take_flag" s_take_flag ["self"] f_take_flag fd_take_flag) (G_take_flag : FnOk P w K mg base CX0 2 f_take_flag fd_take_flag ["self"] (sp_take_flag K C)) {f_take_anys : Addr} {fd_take_anys : FuncData} (M_take_anys : Mt K C "take_anys" "Taker.take_anys" s_take_anys ["self"] f_take_anys fd_take_anys) (G_take_anys : FnOk P w K mg base CX0 4 f_take_anys fd_take_anys ["self"] (sp_take_anys K C)) {f_take_numbers : Addr} {fd_take_numbers : FuncData} (M_take_numbers : Mt K C "take_numbers" "Taker.take_numbers" s_take_numbers ["self"] f_take_numbers fd_take_numbers) (G_take_numbers : FnOk P w K mg base CX0 4 f_take_numbers fd_take_numbers ["self"] (sp_take_numbers K C)) : FnOk P w K mg base CX0 6 f fd ["taker"] (sp_take_event K C) := by
  refine D.F.ok sc_take_event (fun vs H Q E h => ?_) (fun cdv A outer s H vs Q E hr h => ?_)
  · obtain ⟨p, l, e, rest, rfl, _⟩ := h
    rfl
  obtain ⟨p, l, e, rest, rfl, ht, hk, q⟩ := h
  refine ⟨_, (pss_cons (ps_set (i := 1) sc_take_event.nd rfl (Or.inl rfl) (pe_meth0 (pv 0) TK.cl M_take_flag.m G_take_flag (hr.mono (by decide)) M_take_flag.b .nil pass0))
    (pss_cons (ps_set (i := 2) sc_take_event.nd rfl (Or.inl rfl) (pe_callTy call_tuple_of rfl T.tuple (by decide +kernel) (pa_cons (pe_meth0 (pv 0) TK.cl M_take_anys.m G_take_anys (hr.mono (by decide)) M_take_anys.b .nil pass0) pa_nil)))
    (pss_cons (ps_set (i := 3) sc_take_event.nd rfl (Or.inl rfl) (pe_callTy call_tuple_of rfl T.tuple (by decide +kernel) (pa_cons (pe_meth0 (pv 0) TK.cl M_take_anys.m G_take_anys (hr.mono (by decide)) M_take_anys.b .nil pass0) pa_nil)))
    (pss_cons (ps_set (i := 4) sc_take_event.nd rfl (Or.inl rfl) (pe_call G_take_deed (hr.mono (by decide)) rfl D_take_deed.m D_take_deed.F.kp D_take_deed.b .nil pass0 (pa_cons (pv 0) pa_nil)))
    (pss_one (ps_ret (pe_tup (pa_cons (pv 1) (pa_cons (pv 2) (pa_cons (pv 3) (pa_cons (pv 4) (pa_cons (pe_callTy call_tuple_of rfl T.tuple (by decide +kernel) (pa_cons (pe_meth0 (pv 0) TK.cl M_take_numbers.m G_take_numbers (hr.mono (by decide)) M_take_numbers.b .nil pass0) pa_nil)) pa_nil)))))))))))), ?_⟩
  rw [numE_app] at ht
  have ins : ∀ {H : Hp} {rs : List Int}, TkAt C H p l rs → ∃ dx i, H p = some (.ins C dx (tf l i)) := fun ⟨dx, _, i, h, _⟩ => ⟨dx, _, h⟩
  obtain ⟨dx0, i0, hp0⟩ := ins ht
  refine ⟨_, rfl, p, dx0, _, rfl, hp0, tf_no _ _ (by decide +kernel) (by decide +kernel), p, l, e.asleep, _, rfl, ht, fun H1 b1 t1 => ?_⟩
  obtain ⟨dx1, i1, hp1⟩ := ins t1
  refine ⟨_, rfl, p, dx1, _, rfl, hp1, tf_no _ _ (by decide +kernel) (by decide +kernel), p, l, e.shown, _, rfl, t1, fun u1 H2 b2 nu1 eu1 t2 => ⟨_, _, rfl, .inl ⟨SqL.of eu1, fun v1 nv1 => ?_⟩⟩⟩
  have s2 : Same H2 (upd H2 v1 (.tup (e.shown.map V.int))) := same_upd nv1
  have g1 : TupI K (upd H2 v1 (.tup (e.shown.map V.int))) v1 e.shown := SqT.of upd_same
  have t2 := t2.keep s2
  have b02 := (b1.trans b2).trans (But.of s2)
  generalize upd H2 v1 (.tup (e.shown.map V.int)) = H3 at g1 t2 b02 ⊢
  obtain ⟨dx3, i3, hp3⟩ := ins t2
  refine ⟨_, rfl, p, dx3, _, rfl, hp3, tf_no _ _ (by decide +kernel) (by decide +kernel), p, l, e.after, _, rfl, t2, fun u2 H4 b4 nu2 eu2 t4 => ⟨_, _, rfl, .inl ⟨SqL.of eu2, fun v2 nv2 => ?_⟩⟩⟩
  have s4 : Same H4 (upd H4 v2 (.tup (e.after.map V.int))) := same_upd nv2
  have g2 : TupI K (upd H4 v2 (.tup (e.after.map V.int))) v2 e.after := SqT.of upd_same
  have t4 := t4.keep s4
  have g1 := (g1.ins b4 hp3).keep s4
  have b04 := (b02.trans b4).trans (But.of s4)
  generalize upd H4 v2 (.tup (e.after.map V.int)) = H5 at g1 g2 t4 b04 ⊢
  obtain ⟨dx5, i5, hp5⟩ := ins t4
  refine ⟨_, rfl, p, l, e.deed, _, rfl, t4, hk.d, fun da H6 b6 hd t6 => ?_⟩
  have g1 := g1.ins b6 hp5
  have g2 := g2.ins b6 hp5
  have b06 := b04.trans b6
  obtain ⟨dx6, i6, hp6⟩ := ins t6
  refine ⟨_, rfl, _, rfl, _, rfl, _, rfl, _, rfl, p, dx6, _, rfl, hp6, tf_no _ _ (by decide +kernel) (by decide +kernel), p, l, e.knows, _, rfl, t6, fun n hn => (hk.m3 n hn).2, fun u3 H7 b7 nu3 eu3 t7 => ⟨_, _, rfl, .inl ⟨SqL.of eu3, fun v3 nv3 => ?_⟩⟩⟩
  have s7 : Same H7 (upd H7 v3 (.tup (e.knows.map V.int))) := same_upd nv3
  have g3 : TupI K (upd H7 v3 (.tup (e.knows.map V.int))) v3 e.knows := SqT.of upd_same
  have t7 := t7.keep s7
  have g1 := (g1.ins b7 hp6).keep s7
  have g2 := (g2.ins b7 hp6).keep s7
  have hd := (hd.ins b7 hp6).keep s7
  have b07 := (b06.trans b7).trans (But.of s7)
  generalize upd H7 v3 (.tup (e.knows.map V.int)) = H8 at g1 g2 g3 hd t7 b07 ⊢
  refine ⟨(by show 5 ≤ sizeLine; decide), fun r hr2 => ?_⟩
  have s8 : Same H8 (upd H8 r (.tup [V.bl e.asleep, V.ref v1, V.ref v2, V.ref da, V.ref v3])) := same_upd hr2
  exact q r _ (b07.trans (But.of s8)) ⟨v1, v2, da, v3, SqT.of upd_same, g1.keep s8, g2.keep s8, hd.keep s8, g3.keep s8⟩ (t7.keep s8)
def sp_take_record (K : PySem.W.Frag) (C : Addr) : Sp := fun vs H Q _ => ∃ (p l : Addr) (e : Rc) (rest : List Int), vs = [.ref p] ∧ TkAt C H p l (numR e ++ rest) ∧ e.Ok ∧ ∀ (a : Addr) (H' : Hp), But p H H' → RcAt K H' a e → TkAt C H' p l rest → Q (.ref a) H'
theorem ok_take_record {f : Addr} {fd : FuncData} {C : Addr} (TK : Tk K mg C) (D : Df K mg "take_record" s_take_record ["taker"] f fd) (T : Txt K mg) {f_take_event : Addr} {fd_take_event : FuncData} (D_take_event : Df K mg "take_event" s_take_event ["taker"] f_take_event fd_take_event) (G_take_event : FnOk P w K mg base CX0 6 f_take_event fd_take_event ["taker"] (sp_take_event K C)) {f_take_number : Addr} {fd_take_number : FuncData} (M_take_number : Mt K C "take_number" "Taker.take_number" s_take_number ["self"] f_take_number fd_take_number) (G_take_number : FnOk P w K mg base CX0 2 f_take_number fd_take_number ["self"] (sp_take_number K C)) : FnOk P w K mg base CX0 7 f fd ["taker"] (sp_take_record K C) := by
  refine D.F.ok sc_take_record (fun vs H Q E h => ?_) (fun cdv A outer s H vs Q E hr h => ?_)
  · obtain ⟨p, l, e, rest, rfl, _⟩ := h
    rfl
  obtain ⟨p, l, e, rest, rfl, ht, hk, q⟩ := h
  refine ⟨_, (pss_one (ps_ret (pe_tup (pa_cons (pe_meth0 (pv 0) TK.cl M_take_number.m G_take_number (hr.mono (by decide)) M_take_number.b .nil pass0) (pa_cons (pe_meth0 (pv 0) TK.cl M_take_number.m G_take_number (hr.mono (by decide)) M_take_number.b .nil pass0) (pa_cons (pe_call G_take_event (hr.mono (by decide)) rfl D_take_event.m D_take_event.F.kp D_take_event.b .nil pass0 (pa_cons (pv 0) pa_nil)) pa_nil)))))), ?_⟩
  have ht : TkAt C H p l (e.dev :: e.num :: (numE e.ev ++ rest)) := ht
  have ins : ∀ {H : Hp} {rs : List Int}, TkAt C H p l rs → ∃ dx i, H p = some (.ins C dx (tf l i)) := fun ⟨dx, _, i, h, _⟩ => ⟨dx, _, h⟩
  obtain ⟨dx0, i0, hp0⟩ := ins ht
  refine ⟨_, rfl, p, dx0, _, rfl, hp0, tf_no _ _ (by decide +kernel) (by decide +kernel), p, l, _, _, rfl, ht, hk.d.2, fun H1 b1 t1 => ?_⟩
  obtain ⟨dx1, i1, hp1⟩ := ins t1
  refine ⟨_, rfl, p, dx1, _, rfl, hp1, tf_no _ _ (by decide +kernel) (by decide +kernel), p, l, _, _, rfl, t1, hk.n.2, fun H2 b2 t2 => ?_⟩
  refine ⟨_, rfl, p, l, e.ev, rest, rfl, t2, hk.e, fun a H3 b3 he t3 => ?_⟩
  refine ⟨(by show 3 ≤ sizeLine; decide), fun r hr2 => ?_⟩
  have s8 : Same H3 (upd H3 r (.tup [V.int e.dev, V.int e.num, V.ref a])) := same_upd hr2
  exact q r _ ((b1.trans (b2.trans b3)).trans (But.of s8)) ⟨a, SqT.of upd_same, he.keep s8⟩ (t3.keep s8)
def sp___init__ (K : PySem.W.Frag) (C : Addr) : Sp := fun vs H Q _ => ∃ (p dx l : Addr) (ns : List Int), vs = [.ref p, .ref l] ∧ H p = some (.ins C dx []) ∧ H l = some (.lst (ns.map V.int)) ∧ ns.length ≤ 1000 ∧ ∀ H', But p H H' → TkAt C H' p l ns → Q .non H'
theorem ok___init__ {f : Addr} {fd : FuncData} {C : Addr} (TK : Tk K mg C) (D : Mt K C "__init__" "Taker.__init__" s___init__ ["self", "integers"] f fd) (T : Txt K mg) : FnOk P w K mg base CX0 1 f fd ["self", "integers"] (sp___init__ K C) := by
  refine D.F.ok sc___init__ (fun vs H Q E h => ?_) (fun cdv A outer s H vs Q E hr h => ?_)
  · obtain ⟨p, dx, l, ns, rfl, _⟩ := h
    rfl
  obtain ⟨p, dx, l, ns, rfl, hp, hl, hn, q⟩ := h
  refine ⟨_, (pss_cons (ps_fld (pv 0) (pv 1) rfl)
    (pss_one (ps_fld (pv 0) pe_int rfl))), ?_⟩
  refine ⟨_, rfl, _, rfl, p, C, dx, [], rfl, hp, TK.cl, TK.nI, (by show 0 < 1000; decide), _, rfl, p, C, dx, _, rfl, upd_same, TK.cl, TK.nT, (by show 1 < 1000; decide), ?_⟩
  have hlp : l ≠ p := ne_of hl hp (by intro z; cases z)
  refine q _ (But.set.trans But.set) ⟨dx, ns, 0, upd_same, ?_, Nat.zero_le _, hn, rfl⟩
  rw [upd_ne hlp, upd_ne hlp]
  exact hl
def sp_take_end (K : PySem.W.Frag) (C : Addr) : Sp := fun vs H Q _ => ∃ (p l : Addr), vs = [.ref p] ∧ TkAt C H p l [] ∧ Q .non H
theorem ok_take_end {f : Addr} {fd : FuncData} {C : Addr} (TK : Tk K mg C) (D : Mt K C "take_end" "Taker.take_end" s_take_end ["self"] f fd) (T : Txt K mg) : FnOk P w K mg base CX0 1 f fd ["self"] (sp_take_end K C) := by
  refine D.F.ok sc_take_end (fun vs H Q E h => ?_) (fun cdv A outer s H vs Q E hr h => ?_)
  · obtain ⟨p, l, rfl, _⟩ := h
    rfl
  obtain ⟨p, l, rfl, ⟨dx, ns, i, hp, hl, hi, hn, hd⟩, q⟩ := h
  refine ⟨_, (pss_one (ps_if (pt_cmpR op_lt (pe_fld (pv 0) rfl) (pe_callB call_len_seq rfl T.len PySem.boot_len (pa_cons (pe_fld (pv 0) rfl) pa_nil)) (nomark _))
      (pss_one ps_never)
      pss_nil)), ?_⟩
  have hlen : ns.length - i = 0 := by rw [← List.length_drop, hd]; rfl
  refine ⟨_, rfl, p, C, dx, _, _, rfl, hp, TK.cl, TK.nT, tf_tak _ _, _, rfl, p, C, dx, _, _, rfl, hp, TK.cl, TK.nI, tf_int _ _, _, _, rfl, .inl (SqL.of hl), _, _, rfl, rfl, _, rfl, ?_⟩
  exact ite2 (fun c => absurd (of_decide_eq_true c) (by rw [List.length_map]; omega)) (fun c => q)
theorem hdl_free : (10 : Nat) ∉ TL.tl (Str.ofString "whensure letter") := by decide +kernel
theorem hdl_len : (Str.ofString "whensure letter").length ≤ 100 := by decide +kernel
theorem recs_len_le : ∀ rs : List Rc, rs.length ≤ (rs.flatMap numR).length
  | [] => Nat.zero_le _
  | a :: r => by
    have ih := recs_len_le r
    rw [List.flatMap_cons, List.length_append, List.length_cons]
    have : (numR a).length = 2 + (numE a.ev).length := by unfold numR; rw [List.length_append]; rfl
    omega
def sp_read_letter (K : PySem.W.Frag) : Sp := fun vs H Q _ => ∃ (L : Lt), vs = [.str (textOf "whensure letter" (numL L))] ∧ L.Ok ∧ ∀ (a : Addr) (H' : Hp), Same H H' → LtAt K H' a L → Q (.ref a) H'
theorem ok_read_letter {f : Addr} {fd : FuncData} {C : Addr} (TK : Tk K mg C) {f___init__ : Addr} (MK : Mk K C f___init__) (D : Df K mg "read_letter" s_read_letter ["text"] f fd) (T : Txt K mg) {t_LETTER_HEAD : Tok} (g_LETTER_HEAD : mg "LETTER_HEAD" = some (.str "whensure letter" t_LETTER_HEAD)) {t_MOST_DIGITS : Tok} (g_MOST_DIGITS : mg "MOST_DIGITS" = some (.int 18 t_MOST_DIGITS)) {f_read_integers : Addr} {fd_read_integers : FuncData} (D_read_integers : Df K mg "read_integers" s_read_integers ["head", "text", "most_digits"] f_read_integers fd_read_integers) (G_read_integers : FnOk P w K mg base CX0 2 f_read_integers fd_read_integers ["head", "text", "most_digits"] (sp_read_integers K)) {f_take_record : Addr} {fd_take_record : FuncData} (D_take_record : Df K mg "take_record" s_take_record ["taker"] f_take_record fd_take_record) (G_take_record : FnOk P w K mg base CX0 7 f_take_record fd_take_record ["taker"] (sp_take_record K C)) {fd___init__ : FuncData} (M___init__ : Mt K C "__init__" "Taker.__init__" s___init__ ["self", "integers"] f___init__ fd___init__) (G___init__ : FnOk P w K mg base CX0 1 f___init__ fd___init__ ["self", "integers"] (sp___init__ K C)) {f_take_number : Addr} {fd_take_number : FuncData} (M_take_number : Mt K C "take_number" "Taker.take_number" s_take_number ["self"] f_take_number fd_take_number) (G_take_number : FnOk P w K mg base CX0 2 f_take_number fd_take_number ["self"] (sp_take_number K C)) {f_take_length : Addr} {fd_take_length : FuncData} (M_take_length : Mt K C "take_length" "Taker.take_length" s_take_length ["self"] f_take_length fd_take_length) (G_take_length : FnOk P w K mg base CX0 3 f_take_length fd_take_length ["self"] (sp_take_length K C)) {f_take_end : Addr} {fd_take_end : FuncData} (M_take_end : Mt K C "take_end" "Taker.take_end" s_take_end ["self"] f_take_end fd_take_end) (G_take_end : FnOk P w K mg base CX0 1 f_take_end fd_take_end ["self"] (sp_take_end K C)) : FnOk P w K mg base CX0 8 f fd ["text"] (sp_read_letter K) := by
  refine D.F.ok sc_read_letter (fun vs H Q E h => ?_) (fun cdv A outer s H vs Q E hr h => ?_)
  · obtain ⟨L, rfl, _⟩ := h
    rfl
  obtain ⟨L, rfl, hk, q⟩ := h
  refine ⟨_, (pss_cons (ps_set (i := 1) sc_read_letter.nd rfl (Or.inr rfl) (pe_make MK G___init__ (hr.mono (by decide)) rfl TK.mg M___init__.b .nil pass0 (pa_cons (pe_call G_read_integers (hr.mono (by decide)) rfl D_read_integers.m D_read_integers.F.kp D_read_integers.b .nil pass0 (pa_cons (pe_glob (v := V.str "whensure letter") rfl g_LETTER_HEAD ⟨_, rfl⟩) (pa_cons (pv 0) (pa_cons (pe_glob (v := V.int 18) rfl g_MOST_DIGITS ⟨_, rfl⟩) pa_nil)))) pa_nil)))
    (pss_cons (ps_asg (pe_lc (own := [("_", 7)]) (g := gName 7) (tt := tYes) rfl sc_read_letter.nd (pi_range1 rfl T.range (pa_cons pe_int pa_nil)) (blkOk_by (own := [("_", 7)]) (N := nm_read_letter) (sc := defScope s_read_letter) (by decide +kernel)) (fun _ _ _ _ _ => (pg_name (i := 7) sc_read_letter.nd rfl (Or.inl rfl))) (fun _ _ _ _ _ => pts_nil) (fun _ _ _ _ _ => (pe_meth0 (pv 1) TK.cl M_take_number.m G_take_number (hr.mono (by decide)) M_take_number.b .nil pass0))) (pg_unl rfl (pgs_cons (pg_name (i := 3) sc_read_letter.nd rfl (Or.inl rfl)) (pgs_cons (pg_name (i := 4) sc_read_letter.nd rfl (Or.inl rfl)) (pgs_cons (pg_name (i := 5) sc_read_letter.nd rfl (Or.inl rfl)) (pgs_cons (pg_name (i := 6) sc_read_letter.nd rfl (Or.inl rfl)) pgs_nil))))))
    (pss_cons (ps_setLc (i := 2) (own := [("_", 7)]) (g := gName 7) (tt := tYes) rfl sc_read_letter.nd rfl rfl (sw_true rfl rfl rfl (by decide +kernel)) (pi_range1 rfl T.range (pa_cons (pe_meth0 (pv 1) TK.cl M_take_length.m G_take_length (hr.mono (by decide)) M_take_length.b .nil pass0) pa_nil)) (blkOk_by (own := [("_", 7)]) (N := nm_read_letter) (sc := defScope s_read_letter) (by decide +kernel)) (fun _ _ _ _ _ => (pg_name (i := 7) sc_read_letter.nd rfl (Or.inl rfl))) (fun _ _ _ _ _ => pts_nil) (fun _ _ _ _ _ => (pe_call G_take_record (hr.mono (by decide)) rfl D_take_record.m D_take_record.F.kp D_take_record.b .nil pass0 (pa_cons (pv 1) pa_nil))))
    (pss_cons (ps_expr (pe_meth0 (pv 1) TK.cl M_take_end.m G_take_end (hr.mono (by decide)) M_take_end.b .nil pass0))
    (pss_one (ps_ret (pe_tup (pa_cons (pv 3) (pa_cons (pv 4) (pa_cons (pv 5) (pa_cons (pv 6) (pa_cons (pe_callTy call_tuple_of rfl T.tuple (by decide +kernel) (pa_cons (pv 2) pa_nil)) pa_nil)))))))))))), ?_⟩
  have hrl := hk.len
  have hln := numL_len hk
  refine ⟨_, rfl, _, numL L, _, rfl, numL_in hk, by unfold numL; simp, by omega, hdl_len, hdl_free, by decide, fun l H1 s1 n1 e1 => ?_⟩
  intro x dx nx ndx nex
  have hlx : l ≠ x := ne_of_none e1 nx
  have hldx : l ≠ dx := ne_of_none e1 ndx
  refine ⟨x, dx, l, numL L, rfl, upd_same, by rw [upd_ne hlx, upd_ne hldx]; exact e1, by omega, fun H2 b2 t2 => ⟨rfl, ?_⟩⟩
  have s2 : Same H H2 := fun c w hc => b2 c w (ne_of_none (s1 _ _ hc) nx) (by rw [upd_ne (ne_of_none (s1 _ _ hc) nx), upd_ne (ne_of_none (s1 _ _ hc) ndx)]; exact s1 _ _ hc)
  have hxn : H x = none := s1.free nx
  have t2 : TkAt C H2 x l ([L.s, L.r, L.k, L.n] ++ ((L.recs.length : Int) :: L.recs.flatMap numR)) := t2
  clear b2
  -- the four numbers
  obtain ⟨dx2, i2, hp2⟩ := inTk t2
  obtain ⟨xs2, hl2⟩ := lsTk t2
  refine ⟨_, rfl, by decide, by decide, fun D hD => lc_range (lo := 0) (n := ((4 : Int)).toNat) (fun i H' => But x H2 H' ∧ H' D = some (.lst (([L.s, L.r, L.k, L.n].take i).map V.int)) ∧ TkAt C H' x l (([L.s, L.r, L.k, L.n].drop i) ++ ((L.recs.length : Int) :: L.recs.flatMap numR))) ⟨But.of (same_upd hD), upd_same, t2.keep (same_upd hD)⟩ ?_ ?_⟩
  · have nDp : D ≠ x := (ne_of_none hp2 hD).symm
    have nDl : D ≠ l := (ne_of_none hl2 hD).symm
    rintro i H' hi ⟨b3, eD, t3⟩
    have hil : i < [L.s, L.r, L.k, L.n].length := hi
    obtain ⟨dx3, i3, hp3⟩ := inTk t3
    rw [List.drop_eq_getElem_cons hil] at t3
    have hnn : 0 ≤ [L.s, L.r, L.k, L.n][i] := by
      have hm := List.getElem_mem hil
      simp only [List.mem_cons, List.not_mem_nil, or_false] at hm
      rcases hm with e | e | e | e <;> rw [e]
      · exact hk.s.2
      · exact hk.r.2
      · exact hk.k.2
      · exact hk.n.2
    refine ⟨rfl, _, rfl, x, dx3, _, rfl, hp3, tf_no _ _ (by decide +kernel) (by decide +kernel), x, l, _, _, rfl, t3, hnn, fun H3 b3' t3' => ?_⟩
    have eD3 := b3' _ _ nDp eD
    refine ⟨_, eD3, by rw [List.length_map, List.length_take]; exact sizes' (by have : [L.s, L.r, L.k, L.n].length = 4 := rfl; omega), fun c w hc hw => ?_, ?_, t3'.but But.set nDp nDl⟩
    · have h3 := b3' c w hc (b3 c w hc hw)
      by_cases hcD : c = D
      · rw [hcD, hD] at hw
        cases hw
      · rw [upd_ne hcD]
        exact h3
    · rw [upd_same, List.take_add_one, List.getElem?_eq_getElem hil, List.map_append]
      rfl
  · rintro H3 ⟨b3, eD, t3⟩
    refine ⟨_, _, rfl, SqL.of eD, rfl, _, _, rfl, _, _, rfl, _, _, rfl, _, _, rfl, rfl, ?_⟩
    have t3 : TkAt C H3 x l ((L.recs.length : Int) :: L.recs.flatMap numR) := t3
    have s3 : Same H H3 := fun c w hc => b3 c w (ne_of_none hc hxn) (s2 _ _ hc)
    clear b3 eD
    obtain ⟨dx3, i3, hp3⟩ := inTk t3
    have hfl := recs_len_le L.recs
    refine ⟨_, rfl, x, dx3, _, rfl, hp3, tf_no _ _ (by decide +kernel) (by decide +kernel), x, l, _, _, rfl, t3, hfl, fun H4 b4 t4 => ?_⟩
    obtain ⟨dx4, i4, hp4⟩ := inTk t4
    obtain ⟨xs4, hl4⟩ := lsTk t4
    have s4 : Same H H4 := fun c w hc => b4 c w (ne_of_none hc hxn) (s3 _ _ hc)
    refine ⟨_, rfl, by omega, by omega, fun D2 hD2 => lc_range (lo := 0) (n := (((L.recs.length : Nat) : Int)).toNat) (fun i H' => ∃ as, But x H4 H' ∧ H' D2 = some (.lst (as.map V.ref)) ∧ Each (RcAt K H') as (L.recs.take i) ∧ TkAt C H' x l ((L.recs.drop i).flatMap numR)) ⟨[], But.of (same_upd hD2), upd_same, Each.nil, t4.keep (same_upd hD2)⟩ ?_ ?_⟩
    · have nDp : D2 ≠ x := (ne_of_none hp4 hD2).symm
      have nDl : D2 ≠ l := (ne_of_none hl4 hD2).symm
      rintro i H' hi ⟨as, b5, eD, hE, t5⟩
      have hil : i < L.recs.length := by omega
      obtain ⟨dx5, i5, hp5⟩ := inTk t5
      rw [List.drop_eq_getElem_cons hil, List.flatMap_cons] at t5
      refine ⟨rfl, _, rfl, x, l, L.recs[i], _, rfl, t5, hk.rs _ (List.getElem_mem hil), fun a H6 b6 hrc t6 => ?_⟩
      have eD6 := b6 _ _ nDp eD
      have hal := hE.1
      rw [List.length_take] at hal
      have bD : But D2 H6 (upd H6 D2 (.lst (as.map V.ref ++ [V.ref a]))) := But.set
      refine ⟨_, eD6, by rw [List.length_map]; exact sizes' (by omega), as ++ [a], fun c w hc hw => ?_, ?_, ?_, t6.but bD nDp nDl⟩
      · have h3 := b6 c w hc (b5 c w hc hw)
        by_cases hcD : c = D2
        · rw [hcD, hD2] at hw
          cases hw
        · rw [upd_ne hcD]
          exact h3
      · rw [upd_same, List.map_append]
        rfl
      · rw [List.take_add_one, List.getElem?_eq_getElem hil]
        exact Each.snoc ((hE.keep fun _ _ z => RcAt.ins b6 hp5 z).keep fun _ _ z => RcAt.but bD eD6 z) (hrc.but bD eD6)
    · rintro H5 ⟨as, b5, eD, hE, t5⟩
      rw [show (((L.recs.length : Nat) : Int)).toNat = L.recs.length from by omega] at hE t5
      rw [List.take_length] at hE
      rw [List.drop_length] at t5
      have s5 : Same H H5 := fun c w hc => b5 c w (ne_of_none hc hxn) (s4 _ _ hc)
      obtain ⟨dx5, i5, hp5⟩ := inTk t5
      refine ⟨_, rfl, x, dx5, _, rfl, hp5, tf_no _ _ (by decide +kernel) (by decide +kernel), x, l, rfl, t5, ?_⟩
      refine ⟨_, rfl, _, rfl, _, rfl, _, rfl, _, rfl, _, _, rfl, .inl ⟨SqL.of eD, fun t ht2 => ⟨(by show 5 ≤ sizeLine; decide), fun r hr2 => ?_⟩⟩⟩
      have s6 : Same H5 (upd H5 t (.tup (as.map V.ref))) := same_upd ht2
      have s7 : Same (upd H5 t (.tup (as.map V.ref))) (upd (upd H5 t (.tup (as.map V.ref))) r (.tup [V.int L.s, V.int L.r, V.int L.k, V.int L.n, V.ref t])) := same_upd hr2
      exact q r _ (s5.trans (s6.trans s7)) ⟨t, as, SqT.of upd_same, SqT.of (s7 _ _ upd_same), hE.keep fun _ _ z => RcAt.keep (s6.trans s7) z⟩
def sp__law_cell (K : PySem.W.Frag) : Sp := fun vs H Q _ => ∃ (a : Addr) (ns : List Int) (k : Int), vs = [.ref a, .int k] ∧ SqL K H a (ns.map V.int) ∧ 0 ≤ k ∧ k ≤ 1000 ∧ ∀ c : Int, Q (.int c) H
theorem ok__law_cell {f : Addr} {fd : FuncData} (D : Df K mg "_law_cell" s__law_cell ["script", "k"] f fd) (T : Txt K mg) : FnOk P w K mg base CX0 1 f fd ["script", "k"] (sp__law_cell K) := by
  refine D.F.ok sc__law_cell (fun vs H Q E h => ?_) (fun cdv A outer s H vs Q E hr h => ?_)
  · obtain ⟨a, ns, k, rfl, _⟩ := h
    rfl
  obtain ⟨a, ns, k, rfl, hS, h0, h1, q⟩ := h
  refine ⟨_, (pss_cons (ps_set (i := 2) sc__law_cell.nd rfl (Or.inl rfl) pe_int)
    (pss_cons (ps_if (pt_cmpR op_lt (pv 1) (pe_callB call_len_seq rfl T.len PySem.boot_len (pa_cons (pv 0) pa_nil)) (nomark _))
      (pss_one (ps_set (i := 2) sc__law_cell.nd rfl (Or.inl rfl) (pe_ix ix_list (pv 0) (pv 1) (fun _ _ => rfl))))
      pss_nil)
    (pss_cons (ps_if (pt_cmpR op_lt (pv 2) pe_int (nomark _))
      (pss_one (ps_set (i := 2) sc__law_cell.nd rfl (Or.inl rfl) (pe_op op_sub pe_int (pe_op op_mul pe_int (pv 2)))))
      pss_nil)
    (pss_cons (ps_if (pt_cmpR op_ge (pv 2) (pe_op op_pow pe_int pe_int) (nomark _))
      (pss_one (ps_ret (pv 2)))
      pss_nil)
    (pss_cons (ps_set (i := 3) sc__law_cell.nd rfl (Or.inl rfl) (pe_op op_mod (pe_op op_add (pe_op op_add (pe_op op_mul (pe_callTy call_int1 rfl T.int (by decide +kernel) (pa_cons (pv 2) pa_nil)) pe_int) (pe_op op_mul (pv 1) pe_int)) pe_int) pe_int))
    (pss_cons (ps_set (i := 3) sc__law_cell.nd rfl (Or.inl rfl) (pe_op op_mod (pe_op op_add (pe_op op_add (pe_op op_mul (pv 3) pe_int) (pe_op op_mul (pv 1) pe_int)) pe_int) pe_int))
    (pss_cons (ps_set (i := 4) sc__law_cell.nd rfl (Or.inl rfl) (pe_op op_mod (pe_op op_add (pe_op op_mul (pv 3) pe_int) pe_int) pe_int))
    (pss_one (ps_ret (pe_op op_add (pe_op op_mul (pv 3) pe_int) (pv 4))))))))))), ?_⟩
  refine ⟨_, rfl, _, rfl, _, _, rfl, .inl hS, _, _, rfl, rfl, _, rfl, ?_⟩
  refine ite2 (fun c => ?_) (fun c => ?_)
  · have c' : k < (((ns.map V.int).length : Nat) : Int) := of_decide_eq_true c
    rw [List.length_map] at c'
    refine ⟨_, rfl, _, rfl, _, _, _, _, rfl, rfl, hS, at_of (j := k.toNat) (v := V.int (ns[k.toNat]'(by omega))) (by omega) (by rw [List.getElem?_map, List.getElem?_eq_getElem (by omega)]; rfl), ?_⟩
    refine ⟨_, rfl, _, _, rfl, rfl, _, rfl, ?_⟩
    refine ite2 (fun c2 => ?_) (fun c2 => ?_)
    · refine ⟨_, rfl, _, _, rfl, rfl, (.inl (by decide)), _, _, rfl, rfl, ?_⟩
      refine ⟨_, rfl, _, _, rfl, rfl, ⟨by decide, by decide, by decide⟩, _, _, rfl, rfl, _, rfl, ?_⟩
      refine ite2 (fun c => ⟨_, rfl, q _⟩) (fun c => ?_)
      refine ⟨_, rfl, .inl ⟨_, rfl, _, _, rfl, rfl, (.inr (by decide)), _, rfl, _, _, rfl, rfl, (.inr (by decide)), _, _, rfl, rfl, _, _, rfl, rfl, _, _, rfl, rfl, (posJ rfl), ?_⟩⟩
      refine ⟨_, rfl, _, _, rfl, rfl, (.inr (by decide)), _, rfl, _, _, rfl, rfl, (.inr (by decide)), _, _, rfl, rfl, _, _, rfl, rfl, _, _, rfl, rfl, (posJ rfl), ?_⟩
      refine ⟨_, rfl, _, _, rfl, rfl, (.inr (by decide)), _, _, rfl, rfl, _, _, rfl, rfl, (posJ rfl), ?_⟩
      exact ⟨_, rfl, _, _, rfl, rfl, (.inr (by decide)), _, rfl, _, _, rfl, rfl, q _⟩
    · refine ⟨_, rfl, _, _, rfl, rfl, ⟨by decide, by decide, by decide⟩, _, _, rfl, rfl, _, rfl, ?_⟩
      refine ite2 (fun c => ⟨_, rfl, q _⟩) (fun c => ?_)
      refine ⟨_, rfl, .inl ⟨_, rfl, _, _, rfl, rfl, (.inr (by decide)), _, rfl, _, _, rfl, rfl, (.inr (by decide)), _, _, rfl, rfl, _, _, rfl, rfl, _, _, rfl, rfl, (posJ rfl), ?_⟩⟩
      refine ⟨_, rfl, _, _, rfl, rfl, (.inr (by decide)), _, rfl, _, _, rfl, rfl, (.inr (by decide)), _, _, rfl, rfl, _, _, rfl, rfl, _, _, rfl, rfl, (posJ rfl), ?_⟩
      refine ⟨_, rfl, _, _, rfl, rfl, (.inr (by decide)), _, _, rfl, rfl, _, _, rfl, rfl, (posJ rfl), ?_⟩
      exact ⟨_, rfl, _, _, rfl, rfl, (.inr (by decide)), _, rfl, _, _, rfl, rfl, q _⟩
  · refine ⟨_, rfl, _, _, rfl, rfl, _, rfl, ?_⟩
    refine ite2 (fun c2 => absurd (of_decide_eq_true c2) (by omega)) (fun c2 => ?_)
    refine ⟨_, rfl, _, _, rfl, rfl, ⟨by decide, by decide, by decide⟩, _, _, rfl, rfl, _, rfl, ?_⟩
    refine ite2 (fun c => ⟨_, rfl, q _⟩) (fun c => ?_)
    refine ⟨_, rfl, .inl ⟨_, rfl, _, _, rfl, rfl, (.inr (by decide)), _, rfl, _, _, rfl, rfl, (.inr (by decide)), _, _, rfl, rfl, _, _, rfl, rfl, _, _, rfl, rfl, (posJ rfl), ?_⟩⟩
    refine ⟨_, rfl, _, _, rfl, rfl, (.inr (by decide)), _, rfl, _, _, rfl, rfl, (.inr (by decide)), _, _, rfl, rfl, _, _, rfl, rfl, _, _, rfl, rfl, (posJ rfl), ?_⟩
    refine ⟨_, rfl, _, _, rfl, rfl, (.inr (by decide)), _, _, rfl, rfl, _, _, rfl, rfl, (posJ rfl), ?_⟩
    exact ⟨_, rfl, _, _, rfl, rfl, (.inr (by decide)), _, rfl, _, _, rfl, rfl, q _⟩
theorem menu_at (j : Int) : ∃ v : Int, atI [V.int 4, V.int 100, V.int ((10 : Int) ^ (9 : Int).toNat), V.int ((10 : Int) ^ (18 : Int).toNat)] (j % 4) = some (.int v) ∧ 0 < v ∧ v ≤ 10 ^ 18 := by
  have h1 : 0 ≤ j % 4 := Int.emod_nonneg _ (by decide)
  have h2 : j % 4 < 4 := Int.emod_lt_of_pos _ (by decide)
  have h : j % 4 = 0 ∨ j % 4 = 1 ∨ j % 4 = 2 ∨ j % 4 = 3 := by omega
  rcases h with e | e | e | e <;> rw [e]
  · exact ⟨_, at_of (j := 0) rfl rfl, by decide, by decide⟩
  · exact ⟨_, at_of (j := 1) rfl rfl, by decide, by decide⟩
  · exact ⟨_, at_of (j := 2) rfl rfl, by decide, by decide⟩
  · exact ⟨_, at_of (j := 3) rfl rfl, by decide, by decide⟩
theorem fmod_in {x v : Int} (h : 0 < v) (h2 : v ≤ 10 ^ 18) : In18 (x.fmod v) ∧ 0 ≤ x.fmod v := by
  have h1 : 0 ≤ x.fmod v := Int.fmod_nonneg_of_pos _ h
  have h3 : x.fmod v < v := Int.fmod_lt_of_pos _ h
  refine ⟨?_, h1⟩
  unfold In18
  omega
theorem In18.neg {n : Int} (h : In18 n) : In18 (0 - n) := by
  unfold In18 at h ⊢
  omega
def sp__law_values (K : PySem.W.Frag) : Sp := fun vs H Q _ => ∃ (s c : Int) (b : Bool), vs = [.int s, .int c, .bl b] ∧ 0 ≤ c ∧ c ≤ 1000 ∧
  ∀ (p : Addr) (H' : Hp) (vals : List Int), Same H H' → H p = none → H' p = some (.lst (vals.map V.int)) → vals.length = c.toNat → (∀ v ∈ vals, In18 v ∧ (b = false → 0 ≤ v)) → Q (.ref p) H'
theorem ok__law_values {f : Addr} {fd : FuncData} (D : Df K mg "_law_values" s__law_values ["seed", "count", "signed"] f fd) (T : Txt K mg) : FnOk P w K mg base CX0 1 f fd ["seed", "count", "signed"] (sp__law_values K) := by
  refine D.F.ok sc__law_values (fun vs H Q E h => ?_) (fun cdv A outer s H vs Q E hr h => ?_)
  · obtain ⟨s, n, b, rfl, _⟩ := h
    rfl
  obtain ⟨sd, cc, sg, rfl, hc0, hn, q⟩ := h
  refine ⟨_, (pss_cons (ps_set (i := 3) sc__law_values.nd rfl (Or.inl rfl) (pe_lst pa_nil))
    (pss_cons (ps_for PassesOwn.never rfl (pi_range1 rfl T.range (pa_cons (pv 1) pa_nil)) (pg_name (i := 4) sc__law_values.nd rfl (Or.inl rfl))
      (pss_cons (ps_set (i := 5) sc__law_values.nd rfl (Or.inl rfl) (pe_op op_modN (pe_callTy call_int1 rfl T.int (by decide +kernel) (pa_cons (pe_op op_fdivN (pv 0) (pe_op op_add (pe_op op_mul (pv 4) (pv 4)) pe_int)) pa_nil)) (pe_ix ix_list (pe_lst (pa_cons pe_int (pa_cons pe_int (pa_cons (pe_op op_pow pe_int pe_int) (pa_cons (pe_op op_pow pe_int pe_int) pa_nil))))) (pe_op op_mod (pe_callTy call_int1 rfl T.int (by decide +kernel) (pa_cons (pe_op op_add (pv 0) (pv 4)) pa_nil)) pe_int) (fun _ _ => rfl))))
    (pss_cons (ps_if (PW.pt (pw_and (pt_val (pv 2)) (pw_and1 (pt_cmpR op_eq (pe_op op_mod (pe_callTy call_int1 rfl T.int (by decide +kernel) (pa_cons (pe_op op_add (pe_op op_fdiv (pv 0) pe_int) (pv 4)) pa_nil)) pe_int) pe_int (nomark _)))))
      (pss_one (ps_set (i := 5) sc__law_values.nd rfl (Or.inl rfl) (pe_op op_sub pe_int (pv 5))))
      pss_nil)
    (pss_one (ps_expr (pe_bm PySem.F.plainAttrs_list PySem.F.slot_list_append PySem.F.type_list_append mt_append (pv 3) (pa_cons (pv 5) pa_nil)))))))
    (pss_one (ps_ret (pv 3))))), ?_⟩
  refine ⟨(by show 0 ≤ sizeLine; decide), fun p hp => ?_⟩
  refine ⟨_, rfl, _, rfl, by omega, by omega, for_range (lo := 0) (n := cc.toNat) (fun i σ H' => ∃ kv vv, ∃ vals : List Int, σ = [some (.int sd), some (.int cc), some (.bl sg), some (.ref p), kv, vv] ∧ Same H H' ∧ H' p = some (.lst (vals.map V.int)) ∧ vals.length = i ∧ (∀ v ∈ vals, In18 v ∧ (sg = false → 0 ≤ v)))
    ⟨none, none, [], rfl, same_upd hp, upd_same, rfl, fun v hv => by simp at hv⟩ ?_ ?_⟩
  · rintro i σ H' hi ⟨kv, vv, vals, rfl, sm, ep, el, hv⟩
    have hi' : i < 1000 := by omega
    have hii : i * i ≤ 1000 * 1000 := Nat.mul_le_mul (by omega) (by omega)
    have ei : ((0 : Int) + (i : Int)) * (0 + (i : Int)) = ((i * i : Nat) : Int) := by simp
    refine ⟨_, rfl, _, rfl, _, rfl, _, _, rfl, rfl, (.inl (by omega)), _, _, rfl, rfl, _, _, rfl, rfl, ⟨by rw [ei]; omega, by rw [ei]; omega⟩, .inl ⟨_, rfl, ?_⟩⟩
    refine ⟨_, _, rfl, rfl, ⟨by decide, by decide, by decide⟩, _, _, rfl, rfl, ⟨by decide, by decide, by decide⟩, (by show 4 ≤ sizeLine; decide), fun m hm => ?_⟩
    have sm2 : Same H' (upd H' m (.lst [V.int 4, V.int 100, V.int ((10 : Int) ^ (9 : Int).toNat), V.int ((10 : Int) ^ (18 : Int).toNat)])) := same_upd hm
    obtain ⟨v, hv1, hv2, hv3⟩ := menu_at (sd + (0 + (i : Int)))
    refine ⟨_, rfl, _, rfl, _, _, rfl, rfl, .inl ⟨_, rfl, _, _, rfl, rfl, (posJ rfl), _, _, _, _, rfl, rfl, SqL.of upd_same, hv1, _, _, rfl, rfl, by omega, ?_⟩⟩
    have hval := fmod_in (x := sd.fdiv ((0 + (i : Int)) * (0 + (i : Int)) + 1)) hv2 hv3
    have hlt : (vals.map V.int).length < sizeLine := by rw [List.length_map, el]; exact sizes' (by omega)
    have ep2 := sm2 _ _ ep
    have fin : ∀ (z : Int), In18 z → (sg = false → 0 ≤ z) → ∃ kv vv, ∃ vals' : List Int, ([some (.int sd), some (.int cc), some (.bl sg), some (.ref p), some (.int (0 + (i : Int))), some (.int z)] : L2.St) = [some (.int sd), some (.int cc), some (.bl sg), some (.ref p), kv, vv] ∧
        Same H (upd (upd H' m (.lst [V.int 4, V.int 100, V.int ((10 : Int) ^ (9 : Int).toNat), V.int ((10 : Int) ^ (18 : Int).toNat)])) p (.lst (vals.map V.int ++ [V.int z]))) ∧
        (upd (upd H' m (.lst [V.int 4, V.int 100, V.int ((10 : Int) ^ (9 : Int).toNat), V.int ((10 : Int) ^ (18 : Int).toNat)])) p (.lst (vals.map V.int ++ [V.int z]))) p = some (.lst (vals'.map V.int)) ∧ vals'.length = i + 1 ∧ (∀ v ∈ vals', In18 v ∧ (sg = false → 0 ≤ v)) := by
      intro z hz hz2
      refine ⟨_, _, vals ++ [z], rfl, fun c u hc => ?_, ?_, by simp [el], fun v hv' => ?_⟩
      · rw [upd_ne (ne_of_none hc hp)]
        exact sm2 _ _ (sm _ _ hc)
      · rw [upd_same, List.map_append]
        rfl
      · rcases List.mem_append.mp hv' with h | h
        · exact hv v h
        · rw [List.mem_singleton.mp h]
          exact ⟨hz, hz2⟩
    refine ⟨_, rfl, _, rfl, ite2 (fun c => ?_) (fun c => ?_)⟩
    · refine ⟨_, rfl, _, _, rfl, rfl, ⟨posJ rfl, by decide⟩, _, rfl, _, _, rfl, rfl, .inl ⟨_, rfl, _, _, rfl, rfl, (posJ rfl), rfl, _, rfl, ite2 (fun c2 => ?_) (fun c2 => ?_)⟩⟩
      · refine ⟨_, rfl, _, _, rfl, rfl, ?_⟩
        exact ⟨_, rfl, .inl ⟨rfl, _, SqL.of ep2⟩, _, rfl, _, _, _, rfl, rfl, ep2, hlt, fin _ hval.1.neg (fun h => absurd c (by rw [h]; decide))⟩
      · exact ⟨_, rfl, .inl ⟨rfl, _, SqL.of ep2⟩, _, rfl, _, _, _, rfl, rfl, ep2, hlt, fin _ hval.1 (fun _ => hval.2)⟩
    · refine iteF ?_
      exact ⟨_, rfl, .inl ⟨rfl, _, SqL.of ep2⟩, _, rfl, _, _, _, rfl, rfl, ep2, hlt, fin _ hval.1 (fun _ => hval.2)⟩
  · rintro σ H' ⟨kv, vv, vals, rfl, sm, ep, el, hv⟩
    exact ⟨_, rfl, q p H' vals sm hp ep (by omega) hv⟩
theorem menu7 {j : Int} (h : j = 1 ∨ j = 3 ∨ j = 5 ∨ j = 6) : ∃ z : Str, atI [V.str "note", V.str "kind", V.str "mark", V.str "send", V.str "tell", V.str "hear", V.str "promise"] j = some (.str z) ∧ deedNames[j.toNat]? = some z ∧ j.toNat < 9 ∧ j.toNat ≠ 8 ∧ arity j.toNat = 2 ∧ ∀ i, ¬ mayNeg j.toNat i := by
  rcases h with e | e | e | e <;> rw [e]
  · exact ⟨_, at_of (j := 1) rfl rfl, rfl, by decide, by decide, rfl, fun i h => by rcases h with ⟨h, _⟩ | h <;> exact absurd h (by decide)⟩
  · exact ⟨_, at_of (j := 3) rfl rfl, rfl, by decide, by decide, rfl, fun i h => by rcases h with ⟨h, _⟩ | h <;> exact absurd h (by decide)⟩
  · exact ⟨_, at_of (j := 5) rfl rfl, rfl, by decide, by decide, rfl, fun i h => by rcases h with ⟨h, _⟩ | h <;> exact absurd h (by decide)⟩
  · exact ⟨_, at_of (j := 6) rfl rfl, rfl, by decide, by decide, rfl, fun i h => by rcases h with ⟨h, _⟩ | h <;> exact absurd h (by decide)⟩
def sp__law_deed (K : PySem.W.Frag) : Sp := fun vs H Q _ => ∃ (s t : Int), vs = [.int s, .int t] ∧ ∀ (a : Addr) (H' : Hp) (d : Dd), Same H H' → DdAt K H' a d → d.Ok → Q (.ref a) H'
theorem ok__law_deed {f : Addr} {fd : FuncData} (D : Df K mg "_law_deed" s__law_deed ["shape", "seed"] f fd) (T : Txt K mg) {f__law_values : Addr} {fd__law_values : FuncData} (D__law_values : Df K mg "_law_values" s__law_values ["seed", "count", "signed"] f__law_values fd__law_values) (G__law_values : FnOk P w K mg base CX0 1 f__law_values fd__law_values ["seed", "count", "signed"] (sp__law_values K)) : FnOk P w K mg base CX0 2 f fd ["shape", "seed"] (sp__law_deed K) := by
  refine D.F.ok sc__law_deed (fun vs H Q E h => ?_) (fun cdv A outer s H vs Q E hr h => ?_)
  · obtain ⟨s, t, rfl, _⟩ := h
    rfl
  obtain ⟨sh, sd, rfl, q⟩ := h
  refine ⟨_, (pss_cons (ps_set (i := 2) sc__law_deed.nd rfl (Or.inl rfl) (pe_op op_mod (pe_callTy call_int1 rfl T.int (by decide +kernel) (pa_cons (pv 0) pa_nil)) pe_int))
    (pss_cons (ps_set (i := 3) sc__law_deed.nd rfl (Or.inl rfl) (pe_call G__law_values (hr.mono (by decide)) rfl D__law_values.m D__law_values.F.kp D__law_values.b .nil pass0 (pa_cons (pv 1) (pa_cons pe_int (pa_cons pe_bl pa_nil)))))
    (pss_cons (ps_set (i := 4) sc__law_deed.nd rfl (Or.inl rfl) (pe_call G__law_values (hr.mono (by decide)) rfl D__law_values.m D__law_values.F.kp D__law_values.b .nil pass0 (pa_cons (pe_op op_fdiv (pv 1) pe_int) (pa_cons pe_int (pa_cons pe_bl pa_nil)))))
    (pss_cons (ps_if (pt_cmpR op_eq (pv 2) pe_int (nomark _))
      (pss_one (ps_ret (pe_tup (pa_cons pe_str pa_nil))))
      pss_nil)
    (pss_cons (ps_if (pt_cmpR op_eq (pv 2) pe_int (nomark _))
      (pss_one (ps_ret (pe_tup (pa_cons pe_str (pa_cons (pe_ix ix_list (pv 3) pe_int (fun _ _ => rfl)) (pa_cons (pe_ix ix_list (pv 3) pe_int (fun _ _ => rfl)) (pa_cons (pe_ix ix_list (pv 4) pe_int (fun _ _ => rfl)) pa_nil)))))))
      pss_nil)
    (pss_cons (ps_if (pt_cmpR op_eq (pv 2) pe_int (nomark _))
      (pss_one (ps_ret (pe_tup (pa_cons pe_str (pa_cons (pe_ix ix_list (pv 3) pe_int (fun _ _ => rfl)) pa_nil)))))
      pss_nil)
    (pss_cons (ps_if (pt_cmpR op_eq (pv 2) pe_int (nomark _))
      (pss_one (ps_ret (pe_tup (pa_cons pe_str (pa_cons (pe_ix ix_list (pv 4) pe_int (fun _ _ => rfl)) pa_nil)))))
      pss_nil)
    (pss_cons (ps_if (pt_cmpR op_eq (pv 2) pe_int (nomark _))
      (pss_one (ps_ret (pe_tup (pa_cons pe_str (pa_cons (pe_callTy call_tuple_of rfl T.tuple (by decide +kernel) (pa_cons (pe_call G__law_values (hr.mono (by decide)) rfl D__law_values.m D__law_values.F.kp D__law_values.b .nil pass0 (pa_cons (pe_op op_fdiv (pv 1) pe_int) (pa_cons (pe_op op_mod (pe_op op_fdiv (pe_callTy call_int1 rfl T.int (by decide +kernel) (pa_cons (pv 0) pa_nil)) pe_int) pe_int) (pa_cons pe_bl pa_nil)))) pa_nil)) pa_nil)))))
      pss_nil)
    (pss_one (ps_ret (pe_tup (pa_cons (pe_ix ix_list (pe_lst (pa_cons pe_str (pa_cons pe_str (pa_cons pe_str (pa_cons pe_str (pa_cons pe_str (pa_cons pe_str (pa_cons pe_str pa_nil)))))))) (pv 2) (fun _ _ => rfl)) (pa_cons (pe_ix ix_list (pv 3) pe_int (fun _ _ => rfl)) (pa_cons (pe_ix ix_list (pv 3) pe_int (fun _ _ => rfl)) pa_nil)))))))))))))), ?_⟩
  refine ⟨_, rfl, .inl ⟨_, rfl, _, _, rfl, rfl, (posJ rfl), ?_⟩⟩
  refine ⟨_, rfl, sd, 2, false, rfl, by decide, by decide, fun p1 H1 vals1 s1 n1 e1 l1 v1 => ?_⟩
  refine ⟨_, rfl, _, _, rfl, rfl, ⟨posJ rfl, by decide⟩, _, 1, true, rfl, by decide, by decide, fun p2 H2 vals2 s2 n2 e2 l2 v2 => ?_⟩
  obtain ⟨x, y, rfl⟩ := two_of l1
  obtain ⟨z, rfl⟩ := one_of l2
  have e1' := s2 _ _ e1
  have s12 := s1.trans s2
  have hx := v1 x (by simp)
  have hy := v1 y (by simp)
  have hz := v2 z (by simp)
  have hp0 : 0 ≤ sh % 9 := Int.emod_nonneg _ (by decide)
  have hp9 : sh % 9 < 9 := Int.emod_lt_of_pos _ (by decide)
  refine ⟨_, rfl, rfl, _, rfl, ite2 (fun c => ?_) (fun c0 => ?_)⟩
  · refine ⟨(by show 1 ≤ sizeLine; decide), fun p hp => ?_⟩
    exact q p _ ⟨0, []⟩ (s12.trans (same_upd hp)) ⟨_, _, rfl, SqT.of upd_same, .inr ⟨of_decide_eq_true rfl, rfl⟩⟩ ⟨of_decide_eq_true rfl, of_decide_eq_true rfl, fun _ => rfl, fun n h => by simp at h, fun i n h => by simp at h⟩
  refine ⟨_, rfl, rfl, _, rfl, ite2 (fun c => ?_) (fun c2 => ?_)⟩
  · refine ⟨_, rfl, _, _, _, _, rfl, rfl, SqL.of e1', at_of (j := 0) rfl rfl, _, rfl, _, _, _, _, rfl, rfl, SqL.of e1', at_of (j := 1) rfl rfl, _, rfl, _, _, _, _, rfl, rfl, SqL.of e2, at_of (j := 0) rfl rfl, (by show 4 ≤ sizeLine; decide), fun p hp => ?_⟩
    refine q p _ ⟨2, [x, y, z]⟩ (s12.trans (same_upd hp)) ⟨_, _, rfl, SqT.of upd_same, .inr ⟨of_decide_eq_true rfl, rfl⟩⟩ ⟨of_decide_eq_true rfl, of_decide_eq_true rfl, fun _ => rfl, fun n h => ?_, fun i n h hm => nt_three h hm (hx.2 rfl) (hy.2 rfl)⟩
    simp only [List.mem_cons, List.not_mem_nil, or_false] at h
    rcases h with e | e | e <;> rw [e]
    · exact hx.1
    · exact hy.1
    · exact hz.1
  refine ⟨_, rfl, rfl, _, rfl, ite2 (fun c => ?_) (fun c4 => ?_)⟩
  · refine ⟨_, rfl, _, _, _, _, rfl, rfl, SqL.of e1', at_of (j := 0) rfl rfl, (by show 2 ≤ sizeLine; decide), fun p hp => ?_⟩
    refine q p _ ⟨4, [x]⟩ (s12.trans (same_upd hp)) ⟨_, _, rfl, SqT.of upd_same, .inr ⟨of_decide_eq_true rfl, rfl⟩⟩ ⟨of_decide_eq_true rfl, of_decide_eq_true rfl, fun _ => rfl, fun n h => ?_, fun i n h hm => nt_one h (hx.2 rfl)⟩
    rw [List.mem_singleton.mp h]
    exact hx.1
  refine ⟨_, rfl, rfl, _, rfl, ite2 (fun c => ?_) (fun c7 => ?_)⟩
  · refine ⟨_, rfl, _, _, _, _, rfl, rfl, SqL.of e2, at_of (j := 0) rfl rfl, (by show 2 ≤ sizeLine; decide), fun p hp => ?_⟩
    refine q p _ ⟨7, [z]⟩ (s12.trans (same_upd hp)) ⟨_, _, rfl, SqT.of upd_same, .inr ⟨of_decide_eq_true rfl, rfl⟩⟩ ⟨of_decide_eq_true rfl, of_decide_eq_true rfl, fun _ => rfl, fun n h => ?_, fun i n h hm => absurd (Or.inr rfl) hm⟩
    rw [List.mem_singleton.mp h]
    exact hz.1
  refine ⟨_, rfl, rfl, _, rfl, ite2 (fun c => ?_) (fun c8 => ?_)⟩
  · have hk0 : 0 ≤ sh / 9 % 4 := Int.emod_nonneg _ (by decide)
    have hk4 : sh / 9 % 4 < 4 := Int.emod_lt_of_pos _ (by decide)
    refine ⟨_, rfl, _, _, rfl, rfl, ⟨posJ rfl, by decide⟩, _, rfl, .inl ⟨_, rfl, _, _, rfl, rfl, ⟨posJ rfl, by decide⟩, _, _, rfl, rfl, (posJ rfl), _, _, false, rfl, hk0, by omega, fun p3 H3 vals3 s3 n3 e3 l3 v3 => ?_⟩⟩
    refine ⟨_, _, rfl, .inl ⟨SqL.of e3, fun u hu => ⟨(by show 2 ≤ sizeLine; decide), fun p hp => ?_⟩⟩⟩
    have s5 : Same (upd H3 u (.tup (vals3.map V.int))) (upd (upd H3 u (.tup (vals3.map V.int))) p (.tup [V.str "anew", V.ref u])) := same_upd hp
    exact q p _ ⟨8, vals3⟩ (s12.trans (s3.trans ((same_upd hu).trans s5))) ⟨_, _, rfl, SqT.of upd_same, .inl ⟨rfl, u, rfl, SqT.of (s5 _ _ upd_same)⟩⟩
      ⟨of_decide_eq_true rfl, by show vals3.length ≤ 4; omega, fun h => absurd rfl h, fun n h => (v3 n h).1, fun i n h _ => (v3 n (List.mem_of_getElem? h)).2 rfl⟩
  have d0 := vint_ne c0
  have d2 := vint_ne c2
  have d4 := vint_ne c4
  have d7 := vint_ne c7
  have d8 := vint_ne c8
  obtain ⟨zz, a1, a2, a3, a4, a5, a6⟩ := menu7 (j := sh % 9) (by omega)
  refine ⟨(by show 7 ≤ sizeLine; decide), fun m hm => ?_⟩
  have s3 := (same_upd hm : Same H2 (upd H2 m (.lst [V.str "note", V.str "kind", V.str "mark", V.str "send", V.str "tell", V.str "hear", V.str "promise"])))
  have e1m := s3 _ _ e1'
  refine ⟨_, rfl, _, _, _, _, rfl, rfl, SqL.of upd_same, a1, _, rfl, _, _, _, _, rfl, rfl, SqL.of e1m, at_of (j := 0) rfl rfl, _, rfl, _, _, _, _, rfl, rfl, SqL.of e1m, at_of (j := 1) rfl rfl, (by show 3 ≤ sizeLine; decide), fun p hp => ?_⟩
  refine q p _ ⟨(sh % 9).toNat, [x, y]⟩ (s12.trans (s3.trans (same_upd hp))) ⟨_, _, a2, SqT.of upd_same, .inr ⟨a4, rfl⟩⟩ ⟨a3, of_decide_eq_true rfl, fun _ => a5.symm, fun n h => ?_, fun i n h _ => nt_two h (hx.2 rfl) (hy.2 rfl)⟩
  simp only [List.mem_cons, List.not_mem_nil, or_false] at h
  rcases h with e | e <;> rw [e]
  · exact hx.1
  · exact hy.1
def sp__law_event (K : PySem.W.Frag) : Sp := fun vs H Q _ => ∃ (s t u : Int), vs = [.int s, .int t, .int u] ∧ ∀ (a : Addr) (H' : Hp) (e : Ev), Same H H' → EvAt K H' a e → e.Ok → e.knows.length ≤ 4 → Q (.ref a) H'
theorem ok__law_event {f : Addr} {fd : FuncData} (D : Df K mg "_law_event" s__law_event ["first", "second", "third"] f fd) (T : Txt K mg) {f__law_values : Addr} {fd__law_values : FuncData} (D__law_values : Df K mg "_law_values" s__law_values ["seed", "count", "signed"] f__law_values fd__law_values) (G__law_values : FnOk P w K mg base CX0 1 f__law_values fd__law_values ["seed", "count", "signed"] (sp__law_values K)) {f__law_deed : Addr} {fd__law_deed : FuncData} (D__law_deed : Df K mg "_law_deed" s__law_deed ["shape", "seed"] f__law_deed fd__law_deed) (G__law_deed : FnOk P w K mg base CX0 2 f__law_deed fd__law_deed ["shape", "seed"] (sp__law_deed K)) : FnOk P w K mg base CX0 3 f fd ["first", "second", "third"] (sp__law_event K) := by
  refine D.F.ok sc__law_event (fun vs H Q E h => ?_) (fun cdv A outer s H vs Q E hr h => ?_)
  · obtain ⟨s, t, u, rfl, _⟩ := h
    rfl
  obtain ⟨x1, x2, x3, rfl, q⟩ := h
  refine ⟨_, (pss_cons (ps_set (i := 3) sc__law_event.nd rfl (Or.inl rfl) (pe_callTy call_tuple_of rfl T.tuple (by decide +kernel) (pa_cons (pe_call G__law_values (hr.mono (by decide)) rfl D__law_values.m D__law_values.F.kp D__law_values.b .nil pass0 (pa_cons (pv 1) (pa_cons (pe_op op_mod (pe_op op_fdiv (pe_callTy call_int1 rfl T.int (by decide +kernel) (pa_cons (pv 0) pa_nil)) pe_int) pe_int) (pa_cons pe_bl pa_nil)))) pa_nil)))
    (pss_cons (ps_set (i := 4) sc__law_event.nd rfl (Or.inl rfl) (pe_callTy call_tuple_of rfl T.tuple (by decide +kernel) (pa_cons (pe_call G__law_values (hr.mono (by decide)) rfl D__law_values.m D__law_values.F.kp D__law_values.b .nil pass0 (pa_cons (pe_op op_fdiv (pv 1) pe_int) (pa_cons (pe_op op_mod (pe_op op_fdiv (pe_callTy call_int1 rfl T.int (by decide +kernel) (pa_cons (pv 0) pa_nil)) pe_int) pe_int) (pa_cons pe_bl pa_nil)))) pa_nil)))
    (pss_cons (ps_set (i := 5) sc__law_event.nd rfl (Or.inl rfl) (pe_callTy call_tuple_of rfl T.tuple (by decide +kernel) (pa_cons (pe_call G__law_values (hr.mono (by decide)) rfl D__law_values.m D__law_values.F.kp D__law_values.b .nil pass0 (pa_cons (pe_op op_fdiv (pv 2) pe_int) (pa_cons (pe_op op_mod (pe_op op_fdiv (pe_callTy call_int1 rfl T.int (by decide +kernel) (pa_cons (pv 0) pa_nil)) pe_int) pe_int) (pa_cons pe_bl pa_nil)))) pa_nil)))
    (pss_one (ps_ret (pe_tup (pa_cons (pe_cmpR op_eq (pe_op op_mod (pe_callTy call_int1 rfl T.int (by decide +kernel) (pa_cons (pv 0) pa_nil)) pe_int) pe_int (nomark _)) (pa_cons (pv 3) (pa_cons (pv 4) (pa_cons (pe_call G__law_deed (hr.mono (by decide)) rfl D__law_deed.m D__law_deed.F.kp D__law_deed.b .nil pass0 (pa_cons (pe_op op_fdiv (pv 0) pe_int) (pa_cons (pv 2) pa_nil))) (pa_cons (pv 5) pa_nil))))))))))), ?_⟩
  have m1 : 0 ≤ x1 / 2 % 4 := Int.emod_nonneg _ (by decide)
  have m1' : x1 / 2 % 4 < 4 := Int.emod_lt_of_pos _ (by decide)
  have m2 : 0 ≤ x1 / 8 % 4 := Int.emod_nonneg _ (by decide)
  have m2' : x1 / 8 % 4 < 4 := Int.emod_lt_of_pos _ (by decide)
  have m3 : 0 ≤ x1 / 1152 % 5 := Int.emod_nonneg _ (by decide)
  have m3' : x1 / 1152 % 5 < 5 := Int.emod_lt_of_pos _ (by decide)
  refine ⟨_, rfl, _, rfl, .inl ⟨_, rfl, _, _, rfl, rfl, ⟨posJ rfl, by decide⟩, _, _, rfl, rfl, (posJ rfl), _, _, true, rfl, m1, by omega, fun p1 H1 vals1 s1 n1 e1 l1 v1 => ?_⟩⟩
  refine ⟨_, _, rfl, .inl ⟨SqL.of e1, fun u1 hu1 => ?_⟩⟩
  have t1 : Same H1 (upd H1 u1 (.tup (vals1.map V.int))) := same_upd hu1
  refine ⟨_, rfl, _, _, rfl, rfl, ⟨posJ rfl, by decide⟩, _, rfl, .inl ⟨_, rfl, _, _, rfl, rfl, ⟨posJ rfl, by decide⟩, _, _, rfl, rfl, (posJ rfl), _, _, true, rfl, m2, by omega, fun p2 H2 vals2 s2 n2 e2 l2 v2 => ?_⟩⟩
  refine ⟨_, _, rfl, .inl ⟨SqL.of e2, fun u2 hu2 => ?_⟩⟩
  have t2 : Same H2 (upd H2 u2 (.tup (vals2.map V.int))) := same_upd hu2
  refine ⟨_, rfl, _, _, rfl, rfl, ⟨posJ rfl, by decide⟩, _, rfl, .inl ⟨_, rfl, _, _, rfl, rfl, ⟨posJ rfl, by decide⟩, _, _, rfl, rfl, (posJ rfl), _, _, false, rfl, m3, by omega, fun p3 H3 vals3 s3 n3 e3 l3 v3 => ?_⟩⟩
  refine ⟨_, _, rfl, .inl ⟨SqL.of e3, fun u3 hu3 => ?_⟩⟩
  have t3 : Same H3 (upd H3 u3 (.tup (vals3.map V.int))) := same_upd hu3
  refine ⟨_, rfl, .inl ⟨_, rfl, _, _, rfl, rfl, (posJ rfl), rfl, _, rfl, _, rfl, _, rfl, _, _, rfl, rfl, ⟨posJ rfl, by decide⟩, _, rfl, _, _, rfl, fun ad H4 d s4 hd hk => ?_⟩⟩
  refine ⟨_, rfl, (by show 5 ≤ sizeLine; decide), fun p hp => ?_⟩
  have s5 : Same H4 (upd H4 p (.tup [.bl (decide (V.int (x1 % 2) = V.int 1)), .ref u1, .ref u2, .ref ad, .ref u3])) := same_upd hp
  have k3 := s4.trans s5
  have k2 := t2.trans (s3.trans (t3.trans k3))
  refine q p _ ⟨_, vals1, vals2, d, vals3⟩ (s1.trans (t1.trans (s2.trans k2))) ⟨u1, u2, ad, u3, SqT.of upd_same, SqT.of ((s2.trans k2) _ _ upd_same), SqT.of ((s3.trans (t3.trans k3)) _ _ upd_same), hd.keep s5, SqT.of (k3 _ _ upd_same)⟩
    ⟨by show vals1.length ≤ 4; omega, by show vals2.length ≤ 4; omega, by show vals3.length ≤ 6; omega, fun n h => (v1 n h).1, fun n h => (v2 n h).1, fun n h => ⟨(v3 n h).1, (v3 n h).2 rfl⟩, hk⟩ (by show vals3.length ≤ 4; omega)
def sp__law_letter (K : PySem.W.Frag) : Sp := fun vs H Q _ => ∃ (a : Addr) (ns : List Int) (m : Int), vs = [.ref a, .int m] ∧ SqL K H a (ns.map V.int) ∧ 0 ≤ m ∧ m ≤ 19 ∧ ∀ (p : Addr) (H' : Hp) (l : Lt), Same H H' → LtAt K H' p l → l.Ok → l.recs.length ≤ m.toNat → (∀ r ∈ l.recs, r.ev.knows.length ≤ 4) → Q (.ref p) H'
theorem ok__law_letter {f : Addr} {fd : FuncData} (D : Df K mg "_law_letter" s__law_letter ["script", "most"] f fd) (T : Txt K mg) {f__law_cell : Addr} {fd__law_cell : FuncData} (D__law_cell : Df K mg "_law_cell" s__law_cell ["script", "k"] f__law_cell fd__law_cell) (G__law_cell : FnOk P w K mg base CX0 1 f__law_cell fd__law_cell ["script", "k"] (sp__law_cell K)) {f__law_values : Addr} {fd__law_values : FuncData} (D__law_values : Df K mg "_law_values" s__law_values ["seed", "count", "signed"] f__law_values fd__law_values) (G__law_values : FnOk P w K mg base CX0 1 f__law_values fd__law_values ["seed", "count", "signed"] (sp__law_values K)) {f__law_event : Addr} {fd__law_event : FuncData} (D__law_event : Df K mg "_law_event" s__law_event ["first", "second", "third"] f__law_event fd__law_event) (G__law_event : FnOk P w K mg base CX0 3 f__law_event fd__law_event ["first", "second", "third"] (sp__law_event K)) : FnOk P w K mg base CX0 4 f fd ["script", "most"] (sp__law_letter K) := by
  refine D.F.ok sc__law_letter (fun vs H Q E h => ?_) (fun cdv A outer s H vs Q E hr h => ?_)
  · obtain ⟨a, ns, m, rfl, _⟩ := h
    rfl
  obtain ⟨a, ns, m, rfl, hS, hm0, hm, q⟩ := h
  refine ⟨_, (pss_cons (ps_set (i := 2) sc__law_letter.nd rfl (Or.inl rfl) (pe_call G__law_cell (hr.mono (by decide)) rfl D__law_cell.m D__law_cell.F.kp D__law_cell.b .nil pass0 (pa_cons (pv 0) (pa_cons pe_int pa_nil))))
    (pss_cons (ps_set (i := 3) sc__law_letter.nd rfl (Or.inl rfl) (pe_lst pa_nil))
    (pss_cons (ps_for PassesOwn.never rfl (pi_range1 rfl T.range (pa_cons (pe_op op_modN (pe_callTy call_int1 rfl T.int (by decide +kernel) (pa_cons (pv 2) pa_nil)) (pe_op op_add (pv 1) pe_int)) pa_nil)) (pg_name (i := 4) sc__law_letter.nd rfl (Or.inl rfl))
      (pss_cons (ps_set (i := 6) sc__law_letter.nd rfl (Or.inl rfl) (pe_call G__law_cell (hr.mono (by decide)) rfl D__law_cell.m D__law_cell.F.kp D__law_cell.b .nil pass0 (pa_cons (pv 0) (pa_cons (pe_op op_add (pe_op op_mul pe_int (pv 4)) pe_int) pa_nil))))
    (pss_cons (ps_set (i := 7) sc__law_letter.nd rfl (Or.inl rfl) (pe_call G__law_values (hr.mono (by decide)) rfl D__law_values.m D__law_values.F.kp D__law_values.b .nil pass0 (pa_cons (pe_op op_fdiv (pv 6) pe_int) (pa_cons pe_int (pa_cons pe_bl pa_nil)))))
    (pss_cons (ps_set (i := 8) sc__law_letter.nd rfl (Or.inl rfl) (pe_call G__law_event (hr.mono (by decide)) rfl D__law_event.m D__law_event.F.kp D__law_event.b .nil pass0 (pa_cons (pv 6) (pa_cons (pe_call G__law_cell (hr.mono (by decide)) rfl D__law_cell.m D__law_cell.F.kp D__law_cell.b .nil pass0 (pa_cons (pv 0) (pa_cons (pe_op op_add (pe_op op_mul pe_int (pv 4)) pe_int) pa_nil))) (pa_cons (pe_call G__law_cell (hr.mono (by decide)) rfl D__law_cell.m D__law_cell.F.kp D__law_cell.b .nil pass0 (pa_cons (pv 0) (pa_cons (pe_op op_add (pe_op op_mul pe_int (pv 4)) pe_int) pa_nil))) pa_nil)))))
    (pss_one (ps_expr (pe_bm PySem.F.plainAttrs_list PySem.F.slot_list_append PySem.F.type_list_append mt_append (pv 3) (pa_cons (pe_tup (pa_cons (pe_ix ix_list (pv 7) pe_int (fun _ _ => rfl)) (pa_cons (pe_ix ix_list (pv 7) pe_int (fun _ _ => rfl)) (pa_cons (pv 8) pa_nil)))) pa_nil))))))))
    (pss_cons (ps_set (i := 5) sc__law_letter.nd rfl (Or.inl rfl) (pe_call G__law_values (hr.mono (by decide)) rfl D__law_values.m D__law_values.F.kp D__law_values.b .nil pass0 (pa_cons (pe_call G__law_cell (hr.mono (by decide)) rfl D__law_cell.m D__law_cell.F.kp D__law_cell.b .nil pass0 (pa_cons (pv 0) (pa_cons pe_int pa_nil))) (pa_cons pe_int (pa_cons pe_bl pa_nil)))))
    (pss_one (ps_ret (pe_tup (pa_cons (pe_ix ix_list (pv 5) pe_int (fun _ _ => rfl)) (pa_cons (pe_ix ix_list (pv 5) pe_int (fun _ _ => rfl)) (pa_cons (pe_ix ix_list (pv 5) pe_int (fun _ _ => rfl)) (pa_cons (pe_ix ix_list (pv 5) pe_int (fun _ _ => rfl)) (pa_cons (pe_callTy call_tuple_of rfl T.tuple (by decide +kernel) (pa_cons (pv 3) pa_nil)) pa_nil)))))))))))), ?_⟩
  refine ⟨_, rfl, a, ns, 0, rfl, hS, by decide, by decide, fun hd => ?_⟩
  refine ⟨(by show 0 ≤ sizeLine; decide), fun p hp => ?_⟩
  have f0 : 0 ≤ hd.fmod (m + 1) := Int.fmod_nonneg_of_pos _ (by omega)
  have f1 : hd.fmod (m + 1) < m + 1 := Int.fmod_lt_of_pos _ (by omega)
  refine ⟨_, rfl, .inl ⟨_, rfl, _, rfl, _, _, rfl, rfl, _, _, rfl, rfl, by omega, _, rfl, by omega, by omega, for_range (lo := 0) (n := (hd.fmod (m + 1)).toNat) (fun i σ H' => ∃ k v6 v7 v8, ∃ (as : List Addr) (recs : List Rc), σ = [some (.ref a), some (.int m), some (.int hd), some (.ref p), k, none, v6, v7, v8] ∧ Same H H' ∧ H' p = some (.lst (as.map V.ref)) ∧ Each (RcAt K H') as recs ∧ (∀ r ∈ recs, r.Ok ∧ r.ev.knows.length ≤ 4) ∧ recs.length = i)
    ⟨none, none, none, none, [], [], rfl, same_upd hp, upd_same, Each.nil, fun r h => by simp at h, rfl⟩ ?_ ?_⟩⟩
  · rintro i σ H' hi ⟨k, v6, v7, v8, as, recs, rfl, sm, ep, he, hr2, hl⟩
    have hi' : i ≤ 19 := by omega
    refine ⟨_, rfl, _, rfl, _, _, rfl, rfl, (.inl (by decide)), _, _, rfl, rfl, a, ns, _, rfl, sm.seq hS, by omega, by omega, fun c1 => ?_⟩
    refine ⟨_, rfl, _, _, rfl, rfl, ⟨posJ rfl, by decide⟩, _, 2, false, rfl, by decide, by decide, fun p1 H1 vals1 s1 n1 e1 l1 v1 => ?_⟩
    obtain ⟨x, y, rfl⟩ := two_of l1
    have hx := v1 x (by simp)
    have hy := v1 y (by simp)
    refine ⟨_, rfl, _, rfl, _, rfl, _, _, rfl, rfl, (.inl (by decide)), _, _, rfl, rfl, a, ns, _, rfl, (sm.trans s1).seq hS, by omega, by omega, fun c2 => ?_⟩
    refine ⟨_, rfl, _, rfl, _, _, rfl, rfl, (.inl (by decide)), _, _, rfl, rfl, a, ns, _, rfl, (sm.trans s1).seq hS, by omega, by omega, fun c3 => ?_⟩
    refine ⟨_, _, _, rfl, fun ae H2 ev s2 hev hek hkn => ?_⟩
    have ep2 := s2 _ _ (s1 _ _ ep)
    have e12 := s2 _ _ e1
    refine ⟨_, rfl, .inl ⟨rfl, _, SqL.of ep2⟩, _, rfl, _, _, _, _, rfl, rfl, SqL.of e12, at_of (j := 0) rfl rfl, _, rfl, _, _, _, _, rfl, rfl, SqL.of e12, at_of (j := 1) rfl rfl, _, rfl, (by show 3 ≤ sizeLine; decide), fun u hu => ?_⟩
    have s3 : Same H2 (upd H2 u (.tup [V.int x, V.int y, V.ref ae])) := same_upd hu
    have s13 := s1.trans (s2.trans s3)
    have hpu : p ≠ u := ne_of_none ep2 hu
    refine ⟨_, _, _, rfl, rfl, s3 _ _ ep2, by rw [List.length_map, he.1, hl]; exact sizes' (by omega), ?_⟩
    have bt : But p (upd H2 u (.tup [V.int x, V.int y, V.ref ae])) (upd (upd H2 u (.tup [V.int x, V.int y, V.ref ae])) p (.lst (as.map V.ref ++ [V.ref u]))) := But.set
    refine ⟨_, _, _, _, as ++ [u], recs ++ [⟨x, y, ev⟩], rfl, fun c w hc => ?_, ?_, ?_, ?_, by simp [hl]⟩
    · exact bt c w (ne_of_none hc hp) (s13 _ _ (sm _ _ hc))
    · rw [upd_same, List.map_append]
      rfl
    · refine ((he.keep fun _ _ z => RcAt.keep s13 z).snoc (x := ⟨x, y, ev⟩) ⟨ae, SqT.of upd_same, hev.keep s3⟩).keep fun a' r' h' => ?_
      obtain ⟨e', g1, g2⟩ := h'
      exact ⟨e', butTup bt (s3 _ _ ep2) g1, g2.but bt (s3 _ _ ep2)⟩
    · intro r h
      rcases List.mem_append.mp h with h | h
      · exact hr2 r h
      · rw [List.mem_singleton.mp h]
        exact ⟨⟨⟨hx.1, hx.2 rfl⟩, ⟨hy.1, hy.2 rfl⟩, hek⟩, hkn⟩
  · rintro σ H' ⟨k, v6, v7, v8, as, recs, rfl, sm, ep, he, hr2, hl⟩
    refine ⟨_, rfl, a, ns, 1, rfl, sm.seq hS, by decide, by decide, fun c1 => ?_⟩
    refine ⟨_, 4, false, rfl, by decide, by decide, fun p1 H1 vals1 s1 n1 e1 l1 v1 => ?_⟩
    obtain ⟨x, y, z, u, rfl⟩ := four_of l1
    have hx := v1 x (by simp)
    have hy := v1 y (by simp)
    have hz := v1 z (by simp)
    have hu := v1 u (by simp)
    refine ⟨_, rfl, _, _, _, _, rfl, rfl, SqL.of e1, at_of (j := 0) rfl rfl, _, rfl, _, _, _, _, rfl, rfl, SqL.of e1, at_of (j := 1) rfl rfl, _, rfl, _, _, _, _, rfl, rfl, SqL.of e1, at_of (j := 2) rfl rfl, _, rfl, _, _, _, _, rfl, rfl, SqL.of e1, at_of (j := 3) rfl rfl, _, rfl, _, _, rfl, .inl ⟨SqL.of (s1 _ _ ep), fun t ht => ⟨(by show 5 ≤ sizeLine; decide), fun r hr3 => ?_⟩⟩⟩
    have s2 : Same H1 (upd H1 t (.tup (as.map V.ref))) := same_upd ht
    have s3 : Same (upd H1 t (.tup (as.map V.ref))) (upd (upd H1 t (.tup (as.map V.ref))) r (.tup [V.int x, V.int y, V.int z, V.int u, V.ref t])) := same_upd hr3
    have s13 := s1.trans (s2.trans s3)
    exact q r _ ⟨x, y, z, u, recs⟩ (sm.trans s13) ⟨t, as, SqT.of upd_same, SqT.of (s3 _ _ upd_same), he.keep fun _ _ z => RcAt.keep s13 z⟩ ⟨⟨hx.1, hx.2 rfl⟩, ⟨hy.1, hy.2 rfl⟩, ⟨hz.1, hz.2 rfl⟩, ⟨hu.1, hu.2 rfl⟩, by show recs.length ≤ 20; omega, fun r hr => (hr2 r hr).1⟩ (by show recs.length ≤ _; omega) (fun r hr => (hr2 r hr).2)
def sp__law_same (K : PySem.W.Frag) (n : Nat) : Sp := fun vs H Q _ => ∃ x y d e, vs = [x, y] ∧ Den K H d x ∧ Den K H e y ∧ depV e ≤ n ∧ Q (.bl (sameV d e)) H
theorem ok__law_same_step {f : Addr} {fd : FuncData} (D : Df K mg "_law_same" s__law_same ["actual", "expected"] f fd) (T : Txt K mg) {n : Nat} (G__law_same : FnOk P w K mg base CX0 n f fd ["actual", "expected"] (sp__law_same K n)) : FnOk P w K mg base CX0 (n + 1) f fd ["actual", "expected"] (sp__law_same K (n + 1)) := by
  refine D.F.ok sc__law_same (fun vs H Q E h => ?_) (fun cdv A outer s H vs Q E hr h => ?_)
  · obtain ⟨x, y, d, e, rfl, _⟩ := h
    rfl
  obtain ⟨x, y, d, e, rfl, hd, he, hn, q⟩ := h
  refine ⟨_, (pss_cons (ps_if (pt_val (pe_callB call_isi rfl T.isinstance (by decide +kernel) (pa_cons (pv 1) (pa_cons (pe_bltn (v := V.ty "bool") (by rfl) T.bool (by decide +kernel) rfl) pa_nil))))
      (pss_one (ps_ret (pe_and (pe_callB call_isi rfl T.isinstance (by decide +kernel) (pa_cons (pv 0) (pa_cons (pe_bltn (v := V.ty "bool") (by rfl) T.bool (by decide +kernel) rfl) pa_nil))) (pe_one (pe_cmpR op_eq (pv 0) (pv 1) (nomark _))))))
      pss_nil)
    (pss_cons (ps_if (pt_val (pe_callB call_isi rfl T.isinstance (by decide +kernel) (pa_cons (pv 1) (pa_cons (pe_bltn (v := V.ty "int") (by rfl) T.int (by decide +kernel) rfl) pa_nil))))
      (pss_one (ps_ret (pe_and (pe_callB call_isi rfl T.isinstance (by decide +kernel) (pa_cons (pv 0) (pa_cons (pe_bltn (v := V.ty "int") (by rfl) T.int (by decide +kernel) rfl) pa_nil))) (pe_and (pe_not (pe_callB call_isi rfl T.isinstance (by decide +kernel) (pa_cons (pv 0) (pa_cons (pe_bltn (v := V.ty "bool") (by rfl) T.bool (by decide +kernel) rfl) pa_nil)))) (pe_one (pe_cmpR op_eq (pv 0) (pv 1) (nomark _)))))))
      pss_nil)
    (pss_cons (ps_if (pt_val (pe_callB call_isi rfl T.isinstance (by decide +kernel) (pa_cons (pv 1) (pa_cons (pe_bltn (v := V.ty "str") (by rfl) T.str (by decide +kernel) rfl) pa_nil))))
      (pss_one (ps_ret (pe_and (pe_callB call_isi rfl T.isinstance (by decide +kernel) (pa_cons (pv 0) (pa_cons (pe_bltn (v := V.ty "str") (by rfl) T.str (by decide +kernel) rfl) pa_nil))) (pe_one (pe_cmpR op_eq (pv 0) (pv 1) (nomark _))))))
      pss_nil)
    (pss_cons (ps_if (PW.pt (pw_and (pt_val (pe_callB call_isi rfl T.isinstance (by decide +kernel) (pa_cons (pv 1) (pa_cons (pe_bltn (v := V.ty "tuple") (by rfl) T.tuple (by decide +kernel) rfl) pa_nil)))) (pw_and1 (pt_not (pt_val (pe_callB call_isi rfl T.isinstance (by decide +kernel) (pa_cons (pv 0) (pa_cons (pe_bltn (v := V.ty "tuple") (by rfl) T.tuple (by decide +kernel) rfl) pa_nil))))))))
      (pss_one (ps_ret pe_bl))
      pss_nil)
    (pss_cons (ps_if (PW.pt (pw_and (pt_val (pe_callB call_isi rfl T.isinstance (by decide +kernel) (pa_cons (pv 1) (pa_cons (pe_bltn (v := V.ty "list") (by rfl) T.list (by decide +kernel) rfl) pa_nil)))) (pw_and1 (pt_not (pt_val (pe_callB call_isi rfl T.isinstance (by decide +kernel) (pa_cons (pv 0) (pa_cons (pe_bltn (v := V.ty "list") (by rfl) T.list (by decide +kernel) rfl) pa_nil))))))))
      (pss_one (ps_ret pe_bl))
      pss_nil)
    (pss_cons (ps_if (pt_cmpR op_ne (pe_callB call_len_seq rfl T.len PySem.boot_len (pa_cons (pv 0) pa_nil)) (pe_callB call_len_seq rfl T.len PySem.boot_len (pa_cons (pv 1) pa_nil)) (nomark _))
      (pss_one (ps_ret pe_bl))
      pss_nil)
    (pss_cons (ps_for PassesOwn.never rfl (pi_range1 rfl T.range (pa_cons (pe_callB call_len_seq rfl T.len PySem.boot_len (pa_cons (pv 1) pa_nil)) pa_nil)) (pg_name (i := 2) sc__law_same.nd rfl (Or.inl rfl))
      (pss_one (ps_if (pt_not (pt_val (pe_call G__law_same hr rfl D.m D.F.kp D.b .nil pass0 (pa_cons (pe_ix ix_seq (pv 0) (pv 2) (fun _ _ => rfl)) (pa_cons (pe_ix ix_seq (pv 1) (pv 2) (fun _ _ => rfl)) pa_nil)))))
      (pss_one (ps_ret pe_bl))
      pss_nil)))
    (pss_one (ps_ret pe_bl))))))))), ?_⟩
  have td := hd.ty
  have te := he.ty
  have fin : ∀ b : Bool, b = sameV d e → Q (.bl b) H := fun b h => by rw [h]; exact q
  refine ⟨_, rfl, _, _, _, _, _, rfl, ClsV.ty "bool", te, kit_ty (kB e), _, rfl, ?_⟩
  cases e with
  | bl b =>
    refine iteT ⟨_, rfl, _, _, _, _, _, rfl, ClsV.ty "bool", td, kit_ty (kB d), _, rfl, ?_⟩
    cases d with
    | bl b' =>
      rw [Den] at hd he
      subst hd he
      refine iteT ⟨_, rfl, _, rfl, rfl, fin _ ?_⟩
      show decide (V.bl b' = V.bl b) = sameV (.bl b') (.bl b)
      rw [sameV]
      by_cases h : b' = b
      · rw [h, decide_eq_true rfl, beq_self_eq_true]
      · rw [decide_eq_false (fun e => h (by injection e)), beq_false_of_ne h]
    | int _ => exact iteF (fin _ (by simp [sameV]))
    | str _ => exact iteF (fin _ (by simp [sameV]))
    | tup _ => exact iteF (fin _ (by simp [sameV]))
    | lst _ => exact iteF (fin _ (by simp [sameV]))
  | int b =>
    refine iteF ⟨_, rfl, _, _, _, _, _, rfl, ClsV.ty "int", te, kit_ty (kI _), _, rfl, iteT ⟨_, rfl, _, _, _, _, _, rfl, ClsV.ty "int", td, kit_ty (kI d), _, rfl, ?_⟩⟩
    cases d with
    | int b' =>
      rw [Den] at hd he
      subst hd he
      refine iteT ⟨_, rfl, _, _, _, _, _, rfl, ClsV.ty "bool", td, kit_ty (kB _), _, rfl, _, rfl, iteT ⟨_, rfl, _, rfl, rfl, fin _ ?_⟩⟩
      show decide (V.int b' = V.int b) = sameV (.int b') (.int b)
      rw [sameV]
      by_cases h : b' = b
      · rw [h, decide_eq_true rfl, beq_self_eq_true]
      · rw [decide_eq_false (fun e => h (by injection e)), beq_false_of_ne h]
    | bl _ => exact iteT ⟨_, rfl, _, _, _, _, _, rfl, ClsV.ty "bool", td, kit_ty (kB _), _, rfl, _, rfl, iteF (fin _ (by simp [sameV]))⟩
    | str _ => exact iteF (fin _ (by simp [sameV]))
    | tup _ => exact iteF (fin _ (by simp [sameV]))
    | lst _ => exact iteF (fin _ (by simp [sameV]))
  | str b =>
    refine iteF ⟨_, rfl, _, _, _, _, _, rfl, ClsV.ty "int", te, kit_ty (kI _), _, rfl, iteF ⟨_, rfl, _, _, _, _, _, rfl, ClsV.ty "str", te, kit_ty (kS _), _, rfl, iteT ⟨_, rfl, _, _, _, _, _, rfl, ClsV.ty "str", td, kit_ty (kS d), _, rfl, ?_⟩⟩⟩
    cases d with
    | str b' =>
      rw [Den] at hd he
      subst hd he
      refine iteT ⟨_, rfl, _, rfl, rfl, fin _ ?_⟩
      show decide (V.str b' = V.str b) = sameV (.str b') (.str b)
      rw [sameV]
      by_cases h : b' = b
      · rw [h, decide_eq_true rfl, beq_self_eq_true]
      · rw [decide_eq_false (fun e => h (by injection e)), beq_false_of_ne h]
    | bl _ => exact iteF (fin _ (by simp [sameV]))
    | int _ => exact iteF (fin _ (by simp [sameV]))
    | tup _ => exact iteF (fin _ (by simp [sameV]))
    | lst _ => exact iteF (fin _ (by simp [sameV]))
  | tup es =>
    refine iteF ⟨_, rfl, _, _, _, _, _, rfl, ClsV.ty "int", te, kit_ty (kI _), _, rfl, iteF ⟨_, rfl, _, _, _, _, _, rfl, ClsV.ty "str", te, kit_ty (kS _), _, rfl, iteF ⟨_, rfl, _, _, _, _, _, rfl, ClsV.ty "tuple", te, kit_ty (kT _), _, rfl, iteT ⟨_, rfl, _, _, _, _, _, rfl, ClsV.ty "tuple", td, kit_ty (kT d), _, rfl, ?_⟩⟩⟩⟩
    cases d with
    | bl _ => exact iteT (fin _ (by simp [sameV]))
    | int _ => exact iteT (fin _ (by simp [sameV]))
    | str _ => exact iteT (fin _ (by simp [sameV]))
    | lst _ => exact iteT (fin _ (by simp [sameV]))
    | tup ds =>
      rw [Den] at hd he
      obtain ⟨a, xs, rfl, h1, hz1, hdl⟩ := hd
      obtain ⟨b, ys, rfl, h2, hz2, hel⟩ := he
      have lx := hdl.len
      have ly := hel.len
      have fin : ∀ b : Bool, b = sameVL ds es → Q (.bl b) H := fun b h => fin b (by rw [h, sameV])
      refine iteF ⟨_, rfl, _, _, _, _, _, rfl, ClsV.ty "list", te, kit_ty (kL _), _, rfl, iteF (iteF ⟨_, rfl, _, _, rfl, .inr h1, _, rfl, _, _, rfl, .inr h2, rfl, _, rfl, ?_⟩)⟩
      by_cases hl : xs.length = ys.length
      · refine iteNS (by rw [hl]) ?_
        refine ⟨_, rfl, _, _, rfl, .inr h2, _, rfl, by omega, by omega, for_range (lo := 0) (n := ((ys.length : Nat) : Int).toNat) (fun i σ H' => ∃ k, σ = [some (.ref a), some (.ref b), k] ∧ H' = H ∧ ∀ (j : Nat) x y, j < i → ds[j]? = some x → es[j]? = some y → sameV x y = true) ⟨none, rfl, rfl, fun j x y h => by omega⟩ ?_ ?_⟩
        · rintro i σ H' hi ⟨k, rfl, rfl, hall⟩
          have hi1 : i < ds.length := by omega
          have hi2 : i < es.length := by omega
          obtain ⟨u, hu, hdu⟩ := hdl.get (List.getElem?_eq_getElem hi1)
          obtain ⟨v, hv, hev⟩ := hel.get (List.getElem?_eq_getElem hi2)
          have hdep := depVL_at (List.getElem?_eq_getElem hi2)
          rw [depV] at hn
          refine ⟨_, rfl, _, rfl, .inr (.inl ⟨_, _, _, u, rfl, rfl, h1, at_of (j := i) (by omega) hu, _, rfl, _, rfl, .inr (.inl ⟨_, _, _, v, rfl, rfl, h2, at_of (j := i) (by omega) hv, u, v, ds[i], es[i], rfl, hdu, hev, by omega, _, rfl, ?_⟩)⟩)⟩
          cases hsm : sameV ds[i] es[i] with
          | true =>
            refine iteF ⟨_, rfl, rfl, fun j x y hj hx hy => ?_⟩
            by_cases hji : j = i
            · subst hji
              rw [List.getElem?_eq_getElem hi1] at hx
              rw [List.getElem?_eq_getElem hi2] at hy
              cases hx
              cases hy
              exact hsm
            · exact hall j x y (by omega) hx hy
          | false => exact iteT (fin false (sameVL_no (List.getElem?_eq_getElem hi1) (List.getElem?_eq_getElem hi2) hsm).symm)
        · rintro σ H' ⟨k, rfl, rfl, hall⟩
          exact fin true (sameVL_at (by omega) fun i x y hx hy => hall i x y (by have := (List.getElem?_eq_some_iff.mp hy).1; omega) hx hy).symm
      · have hne : ¬ V.int ((xs.length : Nat) : Int) = V.int ((ys.length : Nat) : Int) := fun e => hl (by injection e with e; omega)
        rw [decide_eq_false hne]
        exact iteT (fin false (sameVL_len (by omega)).symm)
  | lst es =>
    refine iteF ⟨_, rfl, _, _, _, _, _, rfl, ClsV.ty "int", te, kit_ty (kI _), _, rfl, iteF ⟨_, rfl, _, _, _, _, _, rfl, ClsV.ty "str", te, kit_ty (kS _), _, rfl, iteF ⟨_, rfl, _, _, _, _, _, rfl, ClsV.ty "tuple", te, kit_ty (kT _), _, rfl, iteF (iteF ⟨_, rfl, _, _, _, _, _, rfl, ClsV.ty "list", te, kit_ty (kL _), _, rfl, iteT ⟨_, rfl, _, _, _, _, _, rfl, ClsV.ty "list", td, kit_ty (kL d), _, rfl, ?_⟩⟩)⟩⟩⟩
    cases d with
    | bl _ => exact iteT (fin _ (by simp [sameV]))
    | int _ => exact iteT (fin _ (by simp [sameV]))
    | str _ => exact iteT (fin _ (by simp [sameV]))
    | tup _ => exact iteT (fin _ (by simp [sameV]))
    | lst ds =>
      rw [Den] at hd he
      obtain ⟨a, xs, rfl, h1, hz1, hdl⟩ := hd
      obtain ⟨b, ys, rfl, h2, hz2, hel⟩ := he
      have lx := hdl.len
      have ly := hel.len
      have fin : ∀ b : Bool, b = sameVL ds es → Q (.bl b) H := fun b h => fin b (by rw [h, sameV])
      refine iteF ⟨_, rfl, _, _, rfl, .inl h1, _, rfl, _, _, rfl, .inl h2, rfl, _, rfl, ?_⟩
      by_cases hl : xs.length = ys.length
      · refine iteNS (by rw [hl]) ?_
        refine ⟨_, rfl, _, _, rfl, .inl h2, _, rfl, by omega, by omega, for_range (lo := 0) (n := ((ys.length : Nat) : Int).toNat) (fun i σ H' => ∃ k, σ = [some (.ref a), some (.ref b), k] ∧ H' = H ∧ ∀ (j : Nat) x y, j < i → ds[j]? = some x → es[j]? = some y → sameV x y = true) ⟨none, rfl, rfl, fun j x y h => by omega⟩ ?_ ?_⟩
        · rintro i σ H' hi ⟨k, rfl, rfl, hall⟩
          have hi1 : i < ds.length := by omega
          have hi2 : i < es.length := by omega
          obtain ⟨u, hu, hdu⟩ := hdl.get (List.getElem?_eq_getElem hi1)
          obtain ⟨v, hv, hev⟩ := hel.get (List.getElem?_eq_getElem hi2)
          have hdep := depVL_at (List.getElem?_eq_getElem hi2)
          rw [depV] at hn
          refine ⟨_, rfl, _, rfl, .inl ⟨_, _, _, u, rfl, rfl, h1, at_of (j := i) (by omega) hu, _, rfl, _, rfl, .inl ⟨_, _, _, v, rfl, rfl, h2, at_of (j := i) (by omega) hv, u, v, ds[i], es[i], rfl, hdu, hev, by omega, _, rfl, ?_⟩⟩⟩
          cases hsm : sameV ds[i] es[i] with
          | true =>
            refine iteF ⟨_, rfl, rfl, fun j x y hj hx hy => ?_⟩
            by_cases hji : j = i
            · subst hji
              rw [List.getElem?_eq_getElem hi1] at hx
              rw [List.getElem?_eq_getElem hi2] at hy
              cases hx
              cases hy
              exact hsm
            · exact hall j x y (by omega) hx hy
          | false => exact iteT (fin false (sameVL_no (List.getElem?_eq_getElem hi1) (List.getElem?_eq_getElem hi2) hsm).symm)
        · rintro σ H' ⟨k, rfl, rfl, hall⟩
          exact fin true (sameVL_at (by omega) fun i x y hx hy => hall i x y (by have := (List.getElem?_eq_some_iff.mp hy).1; omega) hx hy).symm
      · have hne : ¬ V.int ((xs.length : Nat) : Int) = V.int ((ys.length : Nat) : Int) := fun e => hl (by injection e with e; omega)
        rw [decide_eq_false hne]
        exact iteT (fin false (sameVL_len (by omega)).symm)
theorem ok__law_same {f : Addr} {fd : FuncData} (D : Df K mg "_law_same" s__law_same ["actual", "expected"] f fd) (T : Txt K mg) : FnOk P w K mg base CX0 8 f fd ["actual", "expected"] (sp__law_same K 8) := by
  suffices h : ∀ n, FnOk P w K mg base CX0 n f fd ["actual", "expected"] (sp__law_same K n) from h 8
  intro n
  induction n with
  | zero =>
    have no : ∀ vs H Q E, ¬ sp__law_same K 0 vs H Q E := by
      rintro vs H Q E ⟨x, y, d, e, _, _, _, h, _⟩
      cases e <;> rw [depV] at h <;> omega
    exact ⟨fun vs H Q E h => absurd h (no vs H Q E), fun A outer s H args us vs Q E _ _ _ _ h => absurd h (no vs H Q E)⟩
  | succ n ih => exact ok__law_same_step D T ih
def sp__law_next (K : PySem.W.Frag) : Sp := fun vs H Q _ => ∃ (n s : Int), vs = [.int n, .int s] ∧ ∀ m : Int, (n < 5 → m = n + s) → (5 ≤ n → m = n - s) → Q (.int m) H
theorem ok__law_next {f : Addr} {fd : FuncData} (D : Df K mg "_law_next" s__law_next ["number", "step"] f fd) (T : Txt K mg) : FnOk P w K mg base CX0 1 f fd ["number", "step"] (sp__law_next K) := by
  refine D.F.ok sc__law_next (fun vs H Q E h => ?_) (fun cdv A outer s H vs Q E hr h => ?_)
  · obtain ⟨n, s, rfl, _⟩ := h
    rfl
  obtain ⟨n, s, rfl, q⟩ := h
  refine ⟨_, (pss_cons (ps_if (pt_cmpR op_lt (pv 0) pe_int (nomark _))
      (pss_one (ps_ret (pe_op op_add (pv 0) (pv 1))))
      pss_nil)
    (pss_one (ps_ret (pe_op op_sub (pv 0) (pv 1))))), ?_⟩
  refine ⟨_, rfl, _, _, rfl, rfl, _, rfl, ite2 (fun c => ?_) (fun c => ?_)⟩
  · have c' : n < 5 := of_decide_eq_true c
    exact ⟨_, rfl, _, rfl, _, _, rfl, rfl, q _ (fun _ => rfl) (fun h => by omega)⟩
  · have c' : ¬ n < 5 := of_decide_eq_false (Bool.eq_false_iff.mpr c)
    exact ⟨_, rfl, _, rfl, _, _, rfl, rfl, q _ (fun h => by omega) (fun _ => rfl)⟩
theorem In18.low {n : Int} (h : In18 n) (h5 : n < 5) : In18 (n + 1) := by
  unfold In18 at h ⊢
  omega
theorem In18.high {n : Int} (h : In18 n) (h5 : 5 ≤ n) : In18 (n - 1) := by
  unfold In18 at h ⊢
  omega
def sp__law_turned (K : PySem.W.Frag) : Sp := fun vs H Q _ => ∃ (a : Addr) (e : Ev) (s : Int), vs = [.ref a, .int s] ∧ EvAt K H a e ∧ e.Ok ∧ e.knows.length ≤ 5 ∧ ∀ (p : Addr) (H' : Hp) (e' : Ev), Same H H' → EvAt K H' p e' → e'.Ok → Q (.ref p) H'
theorem ok__law_turned {f : Addr} {fd : FuncData} (D : Df K mg "_law_turned" s__law_turned ["event", "shape"] f fd) (T : Txt K mg) {f__law_next : Addr} {fd__law_next : FuncData} (D__law_next : Df K mg "_law_next" s__law_next ["number", "step"] f__law_next fd__law_next) (G__law_next : FnOk P w K mg base CX0 1 f__law_next fd__law_next ["number", "step"] (sp__law_next K)) : FnOk P w K mg base CX0 2 f fd ["event", "shape"] (sp__law_turned K) := by
  refine D.F.ok sc__law_turned (fun vs H Q E h => ?_) (fun cdv A outer s H vs Q E hr h => ?_)
  · obtain ⟨a, e, s, rfl, _⟩ := h
    rfl
  obtain ⟨a, e, sh, rfl, ⟨t1, t2, t3, t4, ht, h1, h2, h3, h4⟩, hk, hkn, q⟩ := h
  refine ⟨_, (pss_cons (ps_set (i := 2) sc__law_turned.nd rfl (Or.inl rfl) (pe_ix ix_tup (pv 0) pe_int (fun _ _ => rfl)))
    (pss_cons (ps_set (i := 3) sc__law_turned.nd rfl (Or.inl rfl) (pe_ix ix_tup (pv 0) pe_int (fun _ _ => rfl)))
    (pss_cons (ps_set (i := 4) sc__law_turned.nd rfl (Or.inl rfl) (pe_ix ix_tup (pv 0) pe_int (fun _ _ => rfl)))
    (pss_cons (ps_set (i := 5) sc__law_turned.nd rfl (Or.inl rfl) (pe_ix ix_tup (pv 0) pe_int (fun _ _ => rfl)))
    (pss_cons (ps_set (i := 6) sc__law_turned.nd rfl (Or.inl rfl) (pe_ix ix_tup (pv 0) pe_int (fun _ _ => rfl)))
    (pss_cons (ps_if (pt_cmpR op_eq (pe_op op_mod (pe_callTy call_int1 rfl T.int (by decide +kernel) (pa_cons (pv 1) pa_nil)) pe_int) pe_int (nomark _))
      (pss_one (ps_set (i := 2) sc__law_turned.nd rfl (Or.inl rfl) (pe_not (pv 2))))
      pss_nil)
    (pss_cons (ps_if (pt_cmpR op_eq (pe_op op_mod (pe_callTy call_int1 rfl T.int (by decide +kernel) (pa_cons (pv 1) pa_nil)) pe_int) pe_int (nomark _))
      (pss_cons (ps_set (i := 3) sc__law_turned.nd rfl (Or.inl rfl) (pv 4))
    (pss_one (ps_set (i := 4) sc__law_turned.nd rfl (Or.inl rfl) (pe_ix ix_tup (pv 0) pe_int (fun _ _ => rfl)))))
      pss_nil)
    (pss_cons (ps_if (pt_cmpR op_eq (pe_op op_mod (pe_callTy call_int1 rfl T.int (by decide +kernel) (pa_cons (pv 1) pa_nil)) pe_int) pe_int (nomark _))
      (pss_one (ps_set (i := 5) sc__law_turned.nd rfl (Or.inl rfl) (pe_ix ix_list (pe_lst (pa_cons (pe_tup (pa_cons pe_str pa_nil)) (pa_cons (pe_tup (pa_cons pe_str (pa_cons (pe_tup pa_nil) pa_nil))) (pa_cons (pe_tup (pa_cons pe_str (pa_cons pe_int pa_nil))) (pa_cons (pe_tup (pa_cons pe_str (pa_cons pe_int pa_nil))) pa_nil))))) (pe_op op_mod (pe_op op_fdiv (pe_callTy call_int1 rfl T.int (by decide +kernel) (pa_cons (pv 1) pa_nil)) pe_int) pe_int) (fun _ _ => rfl))))
      pss_nil)
    (pss_cons (ps_if (pt_cmpR op_eq (pe_op op_mod (pe_callTy call_int1 rfl T.int (by decide +kernel) (pa_cons (pv 1) pa_nil)) pe_int) pe_int (nomark _))
      (pss_one (ps_set (i := 6) sc__law_turned.nd rfl (Or.inl rfl) (pe_op op_catA (pv 6) (pe_tup (pa_cons (pe_op op_mod (pe_op op_fdiv (pe_callTy call_int1 rfl T.int (by decide +kernel) (pa_cons (pv 1) pa_nil)) pe_int) pe_int) pa_nil)))))
      pss_nil)
    (pss_cons (ps_if (PW.pt (pw_and (pt_cmpR op_eq (pe_op op_mod (pe_callTy call_int1 rfl T.int (by decide +kernel) (pa_cons (pv 1) pa_nil)) pe_int) pe_int (nomark _)) (pw_and1 (pt_cmpR op_gt (pe_callB call_len_seq rfl T.len PySem.boot_len (pa_cons (pv 3) pa_nil)) pe_int (nomark _)))))
      (pss_one (ps_set (i := 3) sc__law_turned.nd rfl (Or.inl rfl) (pe_op op_catT (pe_tup (pa_cons (pe_call G__law_next (hr.mono (by decide)) rfl D__law_next.m D__law_next.F.kp D__law_next.b .nil pass0 (pa_cons (pe_ix ix_tup (pv 3) pe_int (fun _ _ => rfl)) (pa_cons pe_int pa_nil))) pa_nil)) (pe_slice sl_tup (pv 3) (po_some pe_int) po_none))))
      pss_nil)
    (pss_one (ps_ret (pe_tup (pa_cons (pv 2) (pa_cons (pv 3) (pa_cons (pv 4) (pa_cons (pv 5) (pa_cons (pv 6) pa_nil)))))))))))))))))), ?_⟩
  have k1 := hk.s1; have k2 := hk.s2; have k3 := hk.s3
  have m0 : 0 ≤ sh % 6 := Int.emod_nonneg _ (by decide)
  have m6 : sh % 6 < 6 := Int.emod_lt_of_pos _ (by decide)
  refine ⟨_, rfl, _, _, _, _, rfl, rfl, ht, at_of (j := 0) rfl rfl, ?_⟩
  refine ⟨_, rfl, _, _, _, _, rfl, rfl, ht, at_of (j := 1) rfl rfl, ?_⟩
  refine ⟨_, rfl, _, _, _, _, rfl, rfl, ht, at_of (j := 2) rfl rfl, ?_⟩
  refine ⟨_, rfl, _, _, _, _, rfl, rfl, ht, at_of (j := 3) rfl rfl, ?_⟩
  refine ⟨_, rfl, _, _, _, _, rfl, rfl, ht, at_of (j := 4) rfl rfl, ?_⟩
  have out : ∀ (H' : Hp) (bl : Bool) (u1 u2 u3 u4 : Addr) (e' : Ev), Same H H' → e'.asleep = bl → TupI K H' u1 e'.shown → TupI K H' u2 e'.after → DdAt K H' u3 e'.deed → TupI K H' u4 e'.knows → e'.Ok → ∀ p, H' p = none → Q (.ref p) (upd H' p (.tup [.bl bl, .ref u1, .ref u2, .ref u3, .ref u4])) := fun H' bl u1 u2 u3 u4 e' s e1 f1 f2 f3 f4 ok p hp => by
    have s2 : Same H' (upd H' p (.tup [.bl bl, .ref u1, .ref u2, .ref u3, .ref u4])) := same_upd hp
    exact q p _ e' (s.trans s2) ⟨u1, u2, u3, u4, by rw [e1]; exact SqT.of upd_same, f1.keep s2, f2.keep s2, f3.keep s2, f4.keep s2⟩ ok
  have hc : sh % 6 = 0 ∨ sh % 6 = 1 ∨ sh % 6 = 2 ∨ sh % 6 = 3 ∨ sh % 6 = 4 ∨ sh % 6 = 5 := by omega
  rcases hc with c | c | c | c | c | c
  · refine ⟨_, rfl, .inl ⟨_, rfl, _, _, rfl, rfl, (posJ rfl), rfl, _, rfl, ifIntT c ⟨_, rfl, _, rfl, ?_⟩⟩⟩
    refine ⟨_, rfl, .inl ⟨_, rfl, _, _, rfl, rfl, (posJ rfl), rfl, _, rfl, ifIntF (by omega) ?_⟩⟩
    refine ⟨_, rfl, .inl ⟨_, rfl, _, _, rfl, rfl, (posJ rfl), rfl, _, rfl, ifIntF (by omega) ?_⟩⟩
    refine ⟨_, rfl, .inl ⟨_, rfl, _, _, rfl, rfl, (posJ rfl), rfl, _, rfl, ifIntF (by omega) ?_⟩⟩
    refine ⟨_, rfl, .inl ⟨_, rfl, _, _, rfl, rfl, (posJ rfl), rfl, _, rfl, ifIntF (by omega) (iteF ?_)⟩⟩
    exact ⟨_, rfl, _, rfl, _, rfl, _, rfl, _, rfl, (by show 5 ≤ sizeLine; decide), fun p hp => out H _ t1 t2 t3 t4 { e with asleep := !e.asleep } (Same.refl _) rfl h1 h2 h3 h4 ⟨hk.s1, hk.s2, hk.s3, hk.m1, hk.m2, hk.m3, hk.d⟩ p hp⟩
  · refine ⟨_, rfl, .inl ⟨_, rfl, _, _, rfl, rfl, (posJ rfl), rfl, _, rfl, ifIntF (by omega) ?_⟩⟩
    refine ⟨_, rfl, .inl ⟨_, rfl, _, _, rfl, rfl, (posJ rfl), rfl, _, rfl, ifIntT c ⟨_, rfl, _, rfl, _, _, _, _, rfl, rfl, ht, at_of (j := 1) rfl rfl, ?_⟩⟩⟩
    refine ⟨_, rfl, .inl ⟨_, rfl, _, _, rfl, rfl, (posJ rfl), rfl, _, rfl, ifIntF (by omega) ?_⟩⟩
    refine ⟨_, rfl, .inl ⟨_, rfl, _, _, rfl, rfl, (posJ rfl), rfl, _, rfl, ifIntF (by omega) ?_⟩⟩
    refine ⟨_, rfl, .inl ⟨_, rfl, _, _, rfl, rfl, (posJ rfl), rfl, _, rfl, ifIntF (by omega) (iteF ?_)⟩⟩
    exact ⟨_, rfl, _, rfl, _, rfl, _, rfl, _, rfl, (by show 5 ≤ sizeLine; decide), fun p hp => out H _ t2 t1 t3 t4 { e with shown := e.after, after := e.shown } (Same.refl _) rfl h2 h1 h3 h4 ⟨hk.s2, hk.s1, hk.s3, hk.m2, hk.m1, hk.m3, hk.d⟩ p hp⟩
  · refine ⟨_, rfl, .inl ⟨_, rfl, _, _, rfl, rfl, (posJ rfl), rfl, _, rfl, ifIntF (by omega) ?_⟩⟩
    refine ⟨_, rfl, .inl ⟨_, rfl, _, _, rfl, rfl, (posJ rfl), rfl, _, rfl, ifIntF (by omega) ?_⟩⟩
    refine ⟨_, rfl, .inl ⟨_, rfl, _, _, rfl, rfl, (posJ rfl), rfl, _, rfl, ifIntT c ?_⟩⟩
    refine ⟨(by show 1 ≤ sizeLine; decide), fun a1 n1 => ⟨(by show 0 ≤ sizeLine; decide), fun a2 n2 => ⟨(by show 2 ≤ sizeLine; decide), fun a3 n3 => ⟨(by show 2 ≤ sizeLine; decide), fun a4 n4 => ⟨(by show 2 ≤ sizeLine; decide), fun a5 n5 => ⟨(by show 4 ≤ sizeLine; decide), fun ml nm => ?_⟩⟩⟩⟩⟩⟩
    have s1 : Same H (upd H a1 (.tup [V.str "note"])) := same_upd n1
    have e1 : (upd H a1 (.tup [V.str "note"])) a1 = some (.tup [V.str "note"]) := upd_same
    generalize upd H a1 (.tup [V.str "note"]) = G1 at *
    have s2 : Same G1 (upd G1 a2 (.tup [])) := same_upd n2
    have e2 : (upd G1 a2 (.tup [])) a2 = some (.tup []) := upd_same
    generalize upd G1 a2 (.tup []) = G2 at *
    have s3 : Same G2 (upd G2 a3 (.tup [V.str "anew", V.ref a2])) := same_upd n3
    have e3 : (upd G2 a3 (.tup [V.str "anew", V.ref a2])) a3 = some (.tup [V.str "anew", V.ref a2]) := upd_same
    generalize upd G2 a3 (.tup [V.str "anew", V.ref a2]) = G3 at *
    have s4 : Same G3 (upd G3 a4 (.tup [V.str "tell", V.int 0])) := same_upd n4
    have e4 : (upd G3 a4 (.tup [V.str "tell", V.int 0])) a4 = some (.tup [V.str "tell", V.int 0]) := upd_same
    generalize upd G3 a4 (.tup [V.str "tell", V.int 0]) = G4 at *
    have s5 : Same G4 (upd G4 a5 (.tup [V.str "commit", V.int 0])) := same_upd n5
    have e5 : (upd G4 a5 (.tup [V.str "commit", V.int 0])) a5 = some (.tup [V.str "commit", V.int 0]) := upd_same
    generalize upd G4 a5 (.tup [V.str "commit", V.int 0]) = G5 at *
    have s6 : Same G5 (upd G5 ml (.lst [V.ref a1, V.ref a3, V.ref a4, V.ref a5])) := same_upd nm
    have e6 : (upd G5 ml (.lst [V.ref a1, V.ref a3, V.ref a4, V.ref a5])) ml = some (.lst [V.ref a1, V.ref a3, V.ref a4, V.ref a5]) := upd_same
    generalize upd G5 ml (.lst [V.ref a1, V.ref a3, V.ref a4, V.ref a5]) = G6 at *
    have s26 := s3.trans (s4.trans (s5.trans s6))
    have s06 := s1.trans (s2.trans s26)
    have z0 : 0 ≤ sh / 6 % 4 := Int.emod_nonneg _ (by decide)
    have z4 : sh / 6 % 4 < 4 := Int.emod_lt_of_pos _ (by decide)
    obtain ⟨u, d, hat, hd, hdk⟩ : ∃ (u : Addr) (d : Dd), atI [V.ref a1, V.ref a3, V.ref a4, V.ref a5] (sh / 6 % 4) = some (.ref u) ∧ DdAt K G6 u d ∧ d.Ok := by
      have hz : sh / 6 % 4 = 0 ∨ sh / 6 % 4 = 1 ∨ sh / 6 % 4 = 2 ∨ sh / 6 % 4 = 3 := by omega
      have n1ok : ∀ n ∈ [(0 : Int)], In18 n := fun n h => by rw [List.mem_singleton.mp h]; exact In18.zero
      rcases hz with e | e | e | e <;> rw [e]
      · exact ⟨a1, ⟨0, []⟩, at_of (j := 0) rfl rfl, ⟨_, _, rfl, SqT.of ((s2.trans s26) _ _ e1), .inr ⟨of_decide_eq_true rfl, rfl⟩⟩, ⟨of_decide_eq_true rfl, of_decide_eq_true rfl, fun _ => rfl, fun n h => by simp at h, fun i n h => by simp at h⟩⟩
      · exact ⟨a3, ⟨8, []⟩, at_of (j := 1) rfl rfl, ⟨_, _, rfl, SqT.of ((s4.trans (s5.trans s6)) _ _ e3), .inl ⟨rfl, a2, rfl, SqT.of (s26 _ _ e2)⟩⟩, ⟨of_decide_eq_true rfl, of_decide_eq_true rfl, fun _ => rfl, fun n h => by simp at h, fun i n h => by simp at h⟩⟩
      · exact ⟨a4, ⟨4, [0]⟩, at_of (j := 2) rfl rfl, ⟨_, _, rfl, SqT.of ((s5.trans s6) _ _ e4), .inr ⟨of_decide_eq_true rfl, rfl⟩⟩, ⟨of_decide_eq_true rfl, of_decide_eq_true rfl, fun _ => rfl, n1ok, fun i n h _ => nt_one h (by decide)⟩⟩
      · exact ⟨a5, ⟨7, [0]⟩, at_of (j := 3) rfl rfl, ⟨_, _, rfl, SqT.of (s6 _ _ e5), .inr ⟨of_decide_eq_true rfl, rfl⟩⟩, ⟨of_decide_eq_true rfl, of_decide_eq_true rfl, fun _ => rfl, n1ok, fun i n h _ => nt_one h (by decide)⟩⟩
    refine ⟨_, rfl, .inl ⟨_, rfl, _, _, rfl, rfl, ⟨posJ rfl, by decide⟩, _, _, rfl, rfl, (posJ rfl), _, _, _, _, rfl, rfl, SqL.of e6, hat, ?_⟩⟩
    refine ⟨_, rfl, .inl ⟨_, rfl, _, _, rfl, rfl, (posJ rfl), rfl, _, rfl, ifIntF (by omega) ?_⟩⟩
    refine ⟨_, rfl, .inl ⟨_, rfl, _, _, rfl, rfl, (posJ rfl), rfl, _, rfl, ifIntF (by omega) (iteF ?_)⟩⟩
    exact ⟨_, rfl, _, rfl, _, rfl, _, rfl, _, rfl, (by show 5 ≤ sizeLine; decide), fun p hp => out G6 _ t1 t2 u t4 { e with deed := d } s06 rfl (h1.keep s06) (h2.keep s06) hd (h4.keep s06) ⟨hk.s1, hk.s2, hk.s3, hk.m1, hk.m2, hk.m3, hdk⟩ p hp⟩
  · refine ⟨_, rfl, .inl ⟨_, rfl, _, _, rfl, rfl, (posJ rfl), rfl, _, rfl, ifIntF (by omega) ?_⟩⟩
    refine ⟨_, rfl, .inl ⟨_, rfl, _, _, rfl, rfl, (posJ rfl), rfl, _, rfl, ifIntF (by omega) ?_⟩⟩
    refine ⟨_, rfl, .inl ⟨_, rfl, _, _, rfl, rfl, (posJ rfl), rfl, _, rfl, ifIntF (by omega) ?_⟩⟩
    have z0 : 0 ≤ sh / 6 % 3 := Int.emod_nonneg _ (by decide)
    have z4 : sh / 6 % 3 < 3 := Int.emod_lt_of_pos _ (by decide)
    have x18 : Nt18 (sh / 6 % 3) := ⟨by unfold In18; omega, z0⟩
    refine ⟨_, rfl, .inl ⟨_, rfl, _, _, rfl, rfl, (posJ rfl), rfl, _, rfl, ifIntT c ⟨_, rfl, _, rfl, .inl ⟨_, rfl, _, _, rfl, rfl, ⟨posJ rfl, by decide⟩, _, _, rfl, rfl, (posJ rfl), (by show 1 ≤ sizeLine; decide), fun w nw => ?_⟩⟩⟩⟩
    have s1 : Same H (upd H w (.tup [V.int (sh / 6 % 3)])) := same_upd nw
    have e1 : (upd H w (.tup [V.int (sh / 6 % 3)])) w = some (.tup [V.int (sh / 6 % 3)]) := upd_same
    generalize upd H w (.tup [V.int (sh / 6 % 3)]) = G1 at *
    have last : ∀ (u : Addr) (G2 : Hp), Same G1 G2 → TupI K G2 u (e.knows ++ [sh / 6 % 3]) → ∀ p, G2 p = none → Q (.ref p) (upd G2 p (.tup [.bl e.asleep, .ref t1, .ref t2, .ref t3, .ref u])) := fun u G2 s2 hu p hp =>
      out G2 _ t1 t2 t3 u { e with knows := e.knows ++ [sh / 6 % 3] } (s1.trans s2) rfl (h1.keep (s1.trans s2)) (h2.keep (s1.trans s2)) (h3.keep (s1.trans s2)) hu ⟨hk.s1, hk.s2, by show (e.knows ++ [sh / 6 % 3]).length ≤ 6; rw [List.length_append, List.length_singleton]; omega, hk.m1, hk.m2, fun n h => by
        rcases List.mem_append.mp h with h | h
        · exact hk.m3 n h
        · rw [List.mem_singleton.mp h]; exact x18, hk.d⟩ p hp
    refine ⟨_, _, _, _, rfl, rfl, h4.keep s1, SqT.of e1, sizes (by rw [List.length_map, List.length_singleton]; omega), fun hn => ?_, (fun _ h => by cases h), fun hn _ p hp => ?_⟩
    · have hkn0 : e.knows = [] := by simpa using hn
      refine ⟨_, rfl, .inl ⟨_, rfl, _, _, rfl, rfl, (posJ rfl), rfl, _, rfl, ifIntF (by omega) (iteF ?_)⟩⟩
      exact ⟨_, rfl, _, rfl, _, rfl, _, rfl, _, rfl, (by show 5 ≤ sizeLine; decide), last w G1 (Same.refl _) (by rw [hkn0]; exact SqT.of e1)⟩
    · have s2 : Same G1 (upd G1 p (.tup (e.knows.map V.int ++ [V.int (sh / 6 % 3)]))) := same_upd hp
      have e2 : TupI K (upd G1 p (.tup (e.knows.map V.int ++ [V.int (sh / 6 % 3)]))) p (e.knows ++ [sh / 6 % 3]) := by
        unfold TupI
        rw [List.map_append]
        exact SqT.of upd_same
      refine ⟨_, rfl, .inl ⟨_, rfl, _, _, rfl, rfl, (posJ rfl), rfl, _, rfl, ifIntF (by omega) (iteF ?_)⟩⟩
      exact ⟨_, rfl, _, rfl, _, rfl, _, rfl, _, rfl, (by show 5 ≤ sizeLine; decide), last p _ s2 e2⟩
  · refine ⟨_, rfl, .inl ⟨_, rfl, _, _, rfl, rfl, (posJ rfl), rfl, _, rfl, ifIntF (by omega) ?_⟩⟩
    refine ⟨_, rfl, .inl ⟨_, rfl, _, _, rfl, rfl, (posJ rfl), rfl, _, rfl, ifIntF (by omega) ?_⟩⟩
    refine ⟨_, rfl, .inl ⟨_, rfl, _, _, rfl, rfl, (posJ rfl), rfl, _, rfl, ifIntF (by omega) ?_⟩⟩
    refine ⟨_, rfl, .inl ⟨_, rfl, _, _, rfl, rfl, (posJ rfl), rfl, _, rfl, ifIntF (by omega) ?_⟩⟩
    refine ⟨_, rfl, .inl ⟨_, rfl, _, _, rfl, rfl, (posJ rfl), rfl, _, rfl, ifIntT c ⟨_, rfl, _, _, rfl, .inr h1, _, _, rfl, rfl, _, rfl, ite2 (fun c2 => ?_) (fun c2 => ?_)⟩⟩⟩
    · have c2' : (((e.shown.map V.int).length : Nat) : Int) > 0 := of_decide_eq_true c2
      rw [List.length_map] at c2'
      obtain ⟨x, r, hxr⟩ : ∃ x r, e.shown = x :: r := by
        cases h : e.shown with
        | nil => rw [h] at c2'; exact absurd c2' (by decide)
        | cons x r => exact ⟨x, r, rfl⟩
      have hx18 := hk.m1 x (by rw [hxr]; exact List.mem_cons_self)
      have h1' : SqT K H t1 (V.int x :: r.map V.int) := by
        have h := h1
        unfold TupI at h
        rw [hxr] at h
        exact h
      have hrl : r.length ≤ 3 := by rw [hxr, List.length_cons] at k1; omega
      refine ⟨_, rfl, _, _, _, _, rfl, rfl, h1', at_of (j := 0) rfl rfl, x, 1, rfl, fun m hm1 hm2 => ?_⟩
      have m18 : In18 m := by
        by_cases h5 : x < 5
        · rw [hm1 h5]; exact hx18.low h5
        · rw [hm2 (by omega)]; exact hx18.high (by omega)
      refine ⟨(by show 1 ≤ sizeLine; decide), fun w nw => ?_⟩
      have s1 : Same H (upd H w (.tup [V.int m])) := same_upd nw
      have e1 : (upd H w (.tup [V.int m])) w = some (.tup [V.int m]) := upd_same
      generalize upd H w (.tup [V.int m]) = G1 at *
      refine ⟨_, rfl, _, rfl, _, _, rfl, sTup s1 h1', ?_, fun v nv => ?_⟩
      · rintro ⟨e, _⟩
        rw [show ((1 : Int)) = ((1 : Nat) : Int) from rfl, HT.sIx_nat] at e
        rw [List.length_cons] at e
        omega
      rw [cut1]
      have s2 : Same G1 (upd G1 v (.tup ((V.int x :: r.map V.int).drop 1))) := same_upd nv
      have e2 : (upd G1 v (.tup ((V.int x :: r.map V.int).drop 1))) v = some (.tup (r.map V.int)) := upd_same
      generalize upd G1 v (.tup ((V.int x :: r.map V.int).drop 1)) = G2 at *
      have last : ∀ (u : Addr) (G3 : Hp), Same G2 G3 → TupI K G3 u (m :: r) → ∀ p, G3 p = none → Q (.ref p) (upd G3 p (.tup [.bl e.asleep, .ref u, .ref t2, .ref t3, .ref t4])) := fun u G3 s3 hu p hp => by
        have s03 := s1.trans (s2.trans s3)
        exact out G3 _ u t2 t3 t4 { e with shown := m :: r } s03 rfl hu (h2.keep s03) (h3.keep s03) (h4.keep s03) ⟨by show (m :: r).length ≤ 4; rw [List.length_cons]; omega, hk.s2, hk.s3, fun n h => by
          rcases List.mem_cons.mp h with h | h
          · rw [h]; exact m18
          · exact hk.m1 n (by rw [hxr]; exact List.mem_cons_of_mem _ h), hk.m2, hk.m3, hk.d⟩ p hp
      refine ⟨_, _, _, _, rfl, rfl, SqT.of (s2 _ _ e1), SqT.of e2, by simp, sizes (by rw [List.length_map, List.length_singleton]; omega), fun hn => ?_, fun hn p hp => ?_⟩
      · have hr0 : r = [] := by simpa using hn
        exact ⟨_, rfl, _, rfl, _, rfl, _, rfl, _, rfl, (by show 5 ≤ sizeLine; decide), last w G2 (Same.refl _) (by rw [hr0]; exact SqT.of (s2 _ _ e1))⟩
      · exact ⟨_, rfl, _, rfl, _, rfl, _, rfl, _, rfl, (by show 5 ≤ sizeLine; decide), last p _ (same_upd hp) (SqT.of upd_same)⟩
    · exact ⟨_, rfl, _, rfl, _, rfl, _, rfl, _, rfl, (by show 5 ≤ sizeLine; decide), fun p hp => out H _ t1 t2 t3 t4 e (Same.refl _) rfl h1 h2 h3 h4 hk p hp⟩
  · refine ⟨_, rfl, .inl ⟨_, rfl, _, _, rfl, rfl, (posJ rfl), rfl, _, rfl, ifIntF (by omega) ?_⟩⟩
    refine ⟨_, rfl, .inl ⟨_, rfl, _, _, rfl, rfl, (posJ rfl), rfl, _, rfl, ifIntF (by omega) ?_⟩⟩
    refine ⟨_, rfl, .inl ⟨_, rfl, _, _, rfl, rfl, (posJ rfl), rfl, _, rfl, ifIntF (by omega) ?_⟩⟩
    refine ⟨_, rfl, .inl ⟨_, rfl, _, _, rfl, rfl, (posJ rfl), rfl, _, rfl, ifIntF (by omega) ?_⟩⟩
    refine ⟨_, rfl, .inl ⟨_, rfl, _, _, rfl, rfl, (posJ rfl), rfl, _, rfl, ifIntF (by omega) (iteF ?_)⟩⟩
    exact ⟨_, rfl, _, rfl, _, rfl, _, rfl, _, rfl, (by show 5 ≤ sizeLine; decide), fun p hp => out H _ t1 t2 t3 t4 e (Same.refl _) rfl h1 h2 h3 h4 hk p hp⟩
theorem cut4 (x1 x2 x3 x4 x5 : V) : cutV [x1, x2, x3, x4, x5] none (some 4) = [x1, x2, x3, x4] := by
  unfold cutV
  rw [show HT.sIx [x1, x2, x3, x4, x5].length [x1, x2, x3, x4, x5].length (some 4) = min 4 5 from HT.sIx_nat 5 5 4, HT.sIx_none]
  rfl
theorem not4 (x1 x2 x3 x4 x5 : V) : ¬ (HT.sIx [x1, x2, x3, x4, x5].length 0 none = 0 ∧ HT.sIx [x1, x2, x3, x4, x5].length [x1, x2, x3, x4, x5].length (some 4) = [x1, x2, x3, x4, x5].length) := by
  rintro ⟨_, e⟩
  rw [show HT.sIx [x1, x2, x3, x4, x5].length [x1, x2, x3, x4, x5].length (some 4) = min 4 5 from HT.sIx_nat 5 5 4] at e
  exact absurd e (by show ¬ (min 4 5 = 5); decide)
theorem cutD (xs : List V) (j : Nat) (h : j ≤ xs.length) : cutV xs (some (j : Int)) none = xs.drop j := by
  unfold cutV
  rw [HT.sIx_nat, HT.sIx_none, show min j xs.length = j by omega, List.take_of_length_le]
  rw [List.length_drop]
  omega
theorem cutT (xs : List V) (j : Nat) (h : j ≤ xs.length) : cutV xs none (some (j : Int)) = xs.take j := by
  unfold cutV
  rw [HT.sIx_nat, HT.sIx_none, show min j xs.length = j by omega]
  rfl
theorem LtAt.other {K : PySem.W.Frag} {H H' : Hp} {p t : Addr} {l : Lt} {as : List Addr} {rs : List Rc} (h : SqT K H p [.int l.s, .int l.r, .int l.k, .int l.n, .ref t]) (ht : SqT K H t (as.map V.ref)) (e : Each (RcAt K H) as rs) : LtAt K H p ⟨l.s, l.r, l.k, l.n, rs⟩ := ⟨t, as, h, ht, e⟩
def sp_law (K : PySem.W.Frag) : Sp := fun vs H Q _ => ∃ (a : Addr) (ns : List Int), vs = [.ref a] ∧ SqL K H a (ns.map V.int) ∧ ns.length ≤ 63 ∧ ∀ H', Q (.bl true) H'
theorem ok_law {f : Addr} {fd : FuncData} {C : Addr} (TK : Tk K mg C) (D : Df K mg "law" s_law ["script"] f fd) (T : Txt K mg) {f_write_letter : Addr} {fd_write_letter : FuncData} (D_write_letter : Df K mg "write_letter" s_write_letter ["letter"] f_write_letter fd_write_letter) (G_write_letter : FnOk P w K mg base CX0 4 f_write_letter fd_write_letter ["letter"] (sp_write_letter K)) {f_read_letter : Addr} {fd_read_letter : FuncData} (D_read_letter : Df K mg "read_letter" s_read_letter ["text"] f_read_letter fd_read_letter) (G_read_letter : FnOk P w K mg base CX0 8 f_read_letter fd_read_letter ["text"] (sp_read_letter K)) {f__law_cell : Addr} {fd__law_cell : FuncData} (D__law_cell : Df K mg "_law_cell" s__law_cell ["script", "k"] f__law_cell fd__law_cell) (G__law_cell : FnOk P w K mg base CX0 1 f__law_cell fd__law_cell ["script", "k"] (sp__law_cell K)) {f__law_event : Addr} {fd__law_event : FuncData} (D__law_event : Df K mg "_law_event" s__law_event ["first", "second", "third"] f__law_event fd__law_event) (G__law_event : FnOk P w K mg base CX0 3 f__law_event fd__law_event ["first", "second", "third"] (sp__law_event K)) {f__law_letter : Addr} {fd__law_letter : FuncData} (D__law_letter : Df K mg "_law_letter" s__law_letter ["script", "most"] f__law_letter fd__law_letter) (G__law_letter : FnOk P w K mg base CX0 4 f__law_letter fd__law_letter ["script", "most"] (sp__law_letter K)) {f__law_same : Addr} {fd__law_same : FuncData} (D__law_same : Df K mg "_law_same" s__law_same ["actual", "expected"] f__law_same fd__law_same) (G__law_same : FnOk P w K mg base CX0 8 f__law_same fd__law_same ["actual", "expected"] (sp__law_same K 8)) {f__law_next : Addr} {fd__law_next : FuncData} (D__law_next : Df K mg "_law_next" s__law_next ["number", "step"] f__law_next fd__law_next) (G__law_next : FnOk P w K mg base CX0 1 f__law_next fd__law_next ["number", "step"] (sp__law_next K)) {f__law_turned : Addr} {fd__law_turned : FuncData} (D__law_turned : Df K mg "_law_turned" s__law_turned ["event", "shape"] f__law_turned fd__law_turned) (G__law_turned : FnOk P w K mg base CX0 2 f__law_turned fd__law_turned ["event", "shape"] (sp__law_turned K)) : FnOk P w K mg base CX0 9 f fd ["script"] (sp_law K) := by
  refine D.F.ok sc_law (fun vs H Q E h => ?_) (fun cdv A outer s H vs Q E hr h => ?_)
  · obtain ⟨a, ns, rfl, _⟩ := h
    rfl
  obtain ⟨a, ns, rfl, hS, h63, q⟩ := h
  refine ⟨_, (pss_cons (ps_set (i := 1) sc_law.nd rfl (Or.inl rfl) (pe_call G__law_letter (hr.mono (by decide)) rfl D__law_letter.m D__law_letter.F.kp D__law_letter.b .nil pass0 (pa_cons (pv 0) (pa_cons pe_int pa_nil))))
    (C8.pss_cut (ps_if (pt_cmpR op_eq (pe_callB call_len_seq rfl T.len PySem.boot_len (pa_cons (pe_ix ix_tup (pv 1) pe_int (fun _ _ => rfl)) pa_nil)) pe_int (nomark _))
      (pss_one (ps_set (i := 1) sc_law.nd rfl (Or.inl rfl) (pe_op op_catT (pe_slice sl_tup (pv 1) po_none (po_some pe_int)) (pe_tup (pa_cons (pe_tup (pa_cons (pe_tup (pa_cons pe_int (pa_cons pe_int (pa_cons (pe_call G__law_event (hr.mono (by decide)) rfl D__law_event.m D__law_event.F.kp D__law_event.b .nil pass0 (pa_cons (pe_call G__law_cell (hr.mono (by decide)) rfl D__law_cell.m D__law_cell.F.kp D__law_cell.b .nil pass0 (pa_cons (pv 0) (pa_cons pe_int pa_nil))) (pa_cons pe_int (pa_cons pe_int pa_nil)))) pa_nil)))) pa_nil)) pa_nil)))))
      pss_nil)
    (pss_cons (ps_set (i := 2) sc_law.nd rfl (Or.inl rfl) (pe_call G__law_cell (hr.mono (by decide)) rfl D__law_cell.m D__law_cell.F.kp D__law_cell.b .nil pass0 (pa_cons (pv 0) (pa_cons pe_int pa_nil))))
    (pss_cons (ps_set (i := 3) sc_law.nd rfl (Or.inl rfl) (pe_callTy call_list_of rfl T.list (by decide +kernel) (pa_cons (pe_ix ix_tup (pv 1) pe_int (fun _ _ => rfl)) pa_nil)))
    (pss_cons (ps_set (i := 4) sc_law.nd rfl (Or.inl rfl) (pe_op op_modN (pe_op op_fdiv (pe_callTy call_int1 rfl T.int (by decide +kernel) (pa_cons (pv 2) pa_nil)) pe_int) (pe_callB call_len_seq rfl T.len PySem.boot_len (pa_cons (pv 3) pa_nil))))
    (pss_cons (ps_set (i := 5) sc_law.nd rfl (Or.inl rfl) (pe_op op_mod (pe_op op_fdiv (pe_callTy call_int1 rfl T.int (by decide +kernel) (pa_cons (pv 2) pa_nil)) pe_int) pe_int))
    (C8.pss_cut (ps_if (pt_cmpR op_eq (pv 5) pe_int (nomark _))
      (pss_one (ps_set (i := 3) sc_law.nd rfl (Or.inl rfl) (pe_op op_cat (pe_slice sl_list (pv 3) (po_some (pv 4)) po_none) (pe_slice sl_list (pv 3) po_none (po_some (pv 4))))))
      (pss_cons (ps_set (i := 8) sc_law.nd rfl (Or.inl rfl) (pe_ix ix_list (pv 3) (pv 4) (fun _ _ => rfl)))
    (pss_one (ps_asg (pe_tup (pa_cons (pe_ix ix_tup (pv 8) pe_int (fun _ _ => rfl)) (pa_cons (pe_call G__law_next (hr.mono (by decide)) rfl D__law_next.m D__law_next.F.kp D__law_next.b .nil pass0 (pa_cons (pe_ix ix_tup (pv 8) pe_int (fun _ _ => rfl)) (pa_cons (pe_op op_sub (pv 5) pe_int) pa_nil))) (pa_cons (pe_call G__law_turned (hr.mono (by decide)) rfl D__law_turned.m D__law_turned.F.kp D__law_turned.b .nil pass0 (pa_cons (pe_ix ix_tup (pv 8) pe_int (fun _ _ => rfl)) (pa_cons (pv 2) pa_nil))) pa_nil)))) (pg_sub (pv 3) (pv 4) set_list)))))
    (pss_cons (ps_set (i := 6) sc_law.nd rfl (Or.inl rfl) (pe_op op_catT (pe_slice sl_tup (pv 1) po_none (po_some pe_int)) (pe_tup (pa_cons (pe_callTy call_tuple_of rfl T.tuple (by decide +kernel) (pa_cons (pv 3) pa_nil)) pa_nil))))
    (pss_cons (ps_set (i := 7) sc_law.nd rfl (Or.inl rfl) (pe_call G__law_same (hr.mono (by decide)) rfl D__law_same.m D__law_same.F.kp D__law_same.b .nil pass0 (pa_cons (pv 6) (pa_cons (pv 1) pa_nil))))
    (pss_cons (ps_if (pt_cmpR op_ne (pe_cmpR op_eq (pe_call G_write_letter (hr.mono (by decide)) rfl D_write_letter.m D_write_letter.F.kp D_write_letter.b .nil pass0 (pa_cons (pv 6) pa_nil)) (pe_call G_write_letter (hr.mono (by decide)) rfl D_write_letter.m D_write_letter.F.kp D_write_letter.b .nil pass0 (pa_cons (pv 1) pa_nil)) (nomark _)) (pv 7) (nomark _))
      (pss_one (ps_ret pe_bl))
      pss_nil)
    (pss_one (ps_ret (pe_and (pe_call G__law_same (hr.mono (by decide)) rfl D__law_same.m D__law_same.F.kp D__law_same.b .nil pass0 (pa_cons (pe_call G_read_letter (hr.mono (by decide)) rfl D_read_letter.m D_read_letter.F.kp D_read_letter.b .nil pass0 (pa_cons (pe_call G_write_letter (hr.mono (by decide)) rfl D_write_letter.m D_write_letter.F.kp D_write_letter.b .nil pass0 (pa_cons (pv 6) pa_nil)) pa_nil)) (pa_cons (pv 6) pa_nil))) (pe_one (pe_call G__law_same (hr.mono (by decide)) rfl D__law_same.m D__law_same.F.kp D__law_same.b .nil pass0 (pa_cons (pe_call G_read_letter (hr.mono (by decide)) rfl D_read_letter.m D_read_letter.F.kp D_read_letter.b .nil pass0 (pa_cons (pe_call G_write_letter (hr.mono (by decide)) rfl D_write_letter.m D_write_letter.F.kp D_write_letter.b .nil pass0 (pa_cons (pv 1) pa_nil)) pa_nil)) (pa_cons (pv 1) pa_nil))))))))))))))))), ?_⟩
  refine ⟨_, rfl, a, ns, 5, rfl, hS, by decide, by decide, fun p0 H0 l0 s0 hl0 hk0 hn0 hkn0 => ?_⟩
  have hn0 : l0.recs.length ≤ 5 := hn0
  refine ⟨fun σ H' => ∃ (p : Addr) (l : Lt), σ = [some (.ref a), some (.ref p), none, none, none, none, none, none, none] ∧ Same H H' ∧ LtAt K H' p l ∧ l.Ok ∧ 1 ≤ l.recs.length ∧ l.recs.length ≤ 5 ∧ ∀ r ∈ l.recs, r.ev.knows.length ≤ 4, ?_, ?_⟩
  · have hl1 := hl0
    obtain ⟨b, as, ht, hb, he⟩ := hl0
    have hal : (as.map V.ref).length = l0.recs.length := by rw [List.length_map]; exact he.1
    refine ⟨_, rfl, _, _, _, _, rfl, rfl, ht, at_of (j := 4) rfl rfl, _, _, rfl, .inr hb, rfl, _, rfl, ite2 (fun c => ?_) (fun c => ?_)⟩
    · refine ⟨_, rfl, _, rfl, _, _, rfl, ht, not4 _ _ _ _ _, fun u nu => ?_⟩
      rw [cut4]
      have s1 : Same H0 (upd H0 u (.tup [.int l0.s, .int l0.r, .int l0.k, .int l0.n])) := same_upd nu
      have e1 : (upd H0 u (.tup [.int l0.s, .int l0.r, .int l0.k, .int l0.n])) u = some (.tup [.int l0.s, .int l0.r, .int l0.k, .int l0.n]) := upd_same
      generalize upd H0 u (.tup [.int l0.s, .int l0.r, .int l0.k, .int l0.n]) = G1 at *
      refine ⟨_, rfl, a, ns, 2, rfl, (s0.trans s1).seq hS, by decide, by decide, fun c1 => ⟨_, _, _, rfl, fun ae G2 ev s2 hev hek hkn => ?_⟩⟩
      refine ⟨(by show 3 ≤ sizeLine; decide), fun r nr => ⟨(by show 1 ≤ sizeLine; decide), fun t nt => ⟨(by show 1 ≤ sizeLine; decide), fun w nw => ?_⟩⟩⟩
      have s3 : Same G2 (upd G2 r (.tup [V.int 0, V.int 1, V.ref ae])) := same_upd nr
      have e3 : (upd G2 r (.tup [V.int 0, V.int 1, V.ref ae])) r = some (.tup [V.int 0, V.int 1, V.ref ae]) := upd_same
      generalize upd G2 r (.tup [V.int 0, V.int 1, V.ref ae]) = G3 at *
      have s4 : Same G3 (upd G3 t (.tup [V.ref r])) := same_upd nt
      have e4 : (upd G3 t (.tup [V.ref r])) t = some (.tup [V.ref r]) := upd_same
      generalize upd G3 t (.tup [V.ref r]) = G4 at *
      have s5 : Same G4 (upd G4 w (.tup [V.ref t])) := same_upd nw
      have e5 : (upd G4 w (.tup [V.ref t])) w = some (.tup [V.ref t]) := upd_same
      generalize upd G4 w (.tup [V.ref t]) = G5 at *
      refine ⟨_, _, _, _, rfl, rfl, SqT.of ((s2.trans (s3.trans (s4.trans s5))) _ _ e1), SqT.of e5, by simp, (by show 5 ≤ sizeLine; decide), (fun h => by cases h), fun _ p np => ?_⟩
      have s6 : Same G5 (upd G5 p (.tup [.int l0.s, .int l0.r, .int l0.k, .int l0.n, .ref t])) := same_upd np
      refine ⟨p, ⟨l0.s, l0.r, l0.k, l0.n, [⟨0, 1, ev⟩]⟩, rfl, s0.trans (s1.trans (s2.trans (s3.trans (s4.trans (s5.trans s6))))), ⟨t, [r], SqT.of upd_same, SqT.of ((s5.trans s6) _ _ e4), Each.snoc (as := []) (xs := []) Each.nil ⟨ae, SqT.of ((s4.trans (s5.trans s6)) _ _ e3), hev.keep (s3.trans (s4.trans (s5.trans s6)))⟩⟩,
        ⟨hk0.s, hk0.r, hk0.k, hk0.n, of_decide_eq_true rfl, fun x hx => ?_⟩, of_decide_eq_true rfl, of_decide_eq_true rfl, fun x hx => ?_⟩
      · rw [List.mem_singleton.mp hx]
        exact ⟨⟨In18.zero, by show (0 : Int) ≤ 0; decide⟩, ⟨In18.small (n := 1) (by decide), by show (0 : Int) ≤ 1; decide⟩, hek⟩
      · rw [List.mem_singleton.mp hx]
        exact hkn
    · have c' := vint_ne c
      rw [hal] at c'
      exact ⟨p0, l0, rfl, s0, hl1, hk0, by omega, hn0, hkn0⟩
  rintro σ H1 ⟨p, l, rfl, s1, hl, hk, hn1, hn5, hkn⟩
  refine ⟨_, rfl, a, ns, 30, rfl, s1.seq hS, by decide, by decide, fun sh => ?_⟩
  have hlA := hl
  obtain ⟨b, as, ht, hb, he⟩ := hl
  have hasl := he.1
  refine ⟨_, rfl, _, _, _, _, rfl, rfl, ht, at_of (j := 4) rfl rfl, _, _, rfl, .inr hb, fun q0 nq => ?_⟩
  have s2 : Same H1 (upd H1 q0 (.lst (as.map V.ref))) := same_upd nq
  have eq0 : (upd H1 q0 (.lst (as.map V.ref))) q0 = some (.lst (as.map V.ref)) := upd_same
  generalize upd H1 q0 (.lst (as.map V.ref)) = H2 at *
  have j0 : 0 ≤ (sh / 36).fmod (((as.map V.ref).length : Nat) : Int) := Int.fmod_nonneg_of_pos _ (by rw [List.length_map]; omega)
  have j1 : (sh / 36).fmod (((as.map V.ref).length : Nat) : Int) < (((as.map V.ref).length : Nat) : Int) := Int.fmod_lt_of_pos _ (by rw [List.length_map]; omega)
  refine ⟨_, rfl, .inl ⟨_, rfl, _, _, rfl, rfl, ⟨posJ rfl, by decide⟩, _, rfl, _, _, rfl, .inl (SqL.of eq0), _, _, rfl, rfl, by rw [List.length_map]; omega, ?_⟩⟩
  obtain ⟨j, hj⟩ : ∃ j : Nat, (sh / 36).fmod (((as.map V.ref).length : Nat) : Int) = (j : Int) := ⟨_, (Int.toNat_of_nonneg j0).symm⟩
  dsimp only
  rw [hj]
  rw [hj, List.length_map] at j1
  have hjl : j < as.length := by omega
  have k0 : 0 ≤ sh / 6 % 3 := Int.emod_nonneg _ (by decide)
  have k3 : sh / 6 % 3 < 3 := Int.emod_lt_of_pos _ (by decide)
  refine ⟨_, rfl, .inl ⟨_, rfl, _, _, rfl, rfl, ⟨posJ rfl, by decide⟩, _, _, rfl, rfl, (posJ rfl), ?_⟩⟩
  have he2 := he.keep fun _ _ z => RcAt.keep s2 z
  refine ⟨fun σ H' => ∃ (q1 : Addr) (bs : List Addr) (rs : List Rc) (rv : Option V), σ = [some (.ref a), some (.ref p), some (.int sh), some (.ref q1), some (.int (j : Int)), some (.int (sh / 6 % 3)), none, none, rv] ∧ Same H1 H' ∧ H' q1 = some (.lst (bs.map V.ref)) ∧ Each (RcAt K H') bs rs ∧ (∀ r ∈ rs, r.Ok) ∧ rs.length ≤ 20, ?_, ?_⟩
  · refine ⟨_, rfl, rfl, _, rfl, ite2 (fun c => ?_) (fun c => ?_)⟩
    · refine ⟨_, rfl, _, rfl, _, rfl, _, _, rfl, SqL.of eq0, fun u nu => ?_⟩
      rw [cutD _ _ (by rw [List.length_map]; omega)]
      have s3 : Same H2 (upd H2 u (.lst ((as.map V.ref).drop j))) := same_upd nu
      have e3 : (upd H2 u (.lst ((as.map V.ref).drop j))) u = some (.lst ((as.map V.ref).drop j)) := upd_same
      generalize upd H2 u (.lst ((as.map V.ref).drop j)) = H3 at *
      refine ⟨_, rfl, _, rfl, _, rfl, _, _, rfl, SqL.of (s3 _ _ eq0), fun v nv => ?_⟩
      rw [cutT _ _ (by rw [List.length_map]; omega)]
      have s4 : Same H3 (upd H3 v (.lst ((as.map V.ref).take j))) := same_upd nv
      have e4 : (upd H3 v (.lst ((as.map V.ref).take j))) v = some (.lst ((as.map V.ref).take j)) := upd_same
      generalize upd H3 v (.lst ((as.map V.ref).take j)) = H4 at *
      refine ⟨_, _, _, _, rfl, rfl, s4 _ _ e3, e4, sizes (by rw [List.length_drop, List.length_take, List.length_map]; omega), fun w nw => ?_⟩
      have s5 : Same H4 (upd H4 w (.lst ((as.map V.ref).drop j ++ (as.map V.ref).take j))) := same_upd nw
      refine ⟨w, as.drop j ++ as.take j, l.recs.drop j ++ l.recs.take j, none, rfl, s2.trans (s3.trans (s4.trans s5)), by rw [upd_same, List.map_append, List.map_drop, List.map_take], ((he2.drop j).append (he2.take j)).keep fun _ _ z => RcAt.keep (s3.trans (s4.trans s5)) z, fun r hr2 => ?_, by rw [List.length_append, List.length_drop, List.length_take]; omega⟩
      rcases List.mem_append.mp hr2 with h | h
      · exact hk.rs r (List.mem_of_mem_drop h)
      · exact hk.rs r (List.mem_of_mem_take h)
    · have c' := vint_ne c
      obtain ⟨rc, hrc, ev, hr1, hr2⟩ := he2.get (List.getElem?_eq_getElem hjl)
      have hrm := List.mem_of_getElem? hrc
      have hrk := hk.rs rc hrm
      refine ⟨_, rfl, _, rfl, _, _, _, _, rfl, rfl, SqL.of eq0, at_of (j := j) (v := V.ref as[j]) rfl (by rw [List.getElem?_map, List.getElem?_eq_getElem hjl]; rfl), ?_⟩
      refine ⟨_, rfl, _, _, _, _, rfl, rfl, hr1, at_of (j := 0) rfl rfl, _, rfl, _, _, _, _, rfl, rfl, hr1, at_of (j := 1) rfl rfl, _, rfl, _, _, rfl, rfl, rc.num, sh / 6 % 3 - 1, rfl, fun m hm1 hm2 => ?_⟩
      have m18 : Nt18 m := by
        have h18 := hrk.n
        unfold Nt18 In18 at h18 ⊢
        by_cases h5 : rc.num < 5
        · rw [hm1 h5]; omega
        · rw [hm2 (by omega)]; omega
      refine ⟨_, rfl, _, _, _, _, rfl, rfl, hr1, at_of (j := 2) rfl rfl, _, rfl, ev, rc.ev, sh, rfl, hr2, hrk.e, by have := hkn rc hrm; omega, fun ae H3 ev' s3 hev hek => ?_⟩
      refine ⟨(by show 3 ≤ sizeLine; decide), fun t nt => ?_⟩
      have s4 : Same H3 (upd H3 t (.tup [V.int rc.dev, V.int m, V.ref ae])) := same_upd nt
      have e4 : (upd H3 t (.tup [V.int rc.dev, V.int m, V.ref ae])) t = some (.tup [V.int rc.dev, V.int m, V.ref ae]) := upd_same
      generalize upd H3 t (.tup [V.int rc.dev, V.int m, V.ref ae]) = H4 at *
      have eq4 := s4 _ _ (s3 _ _ eq0)
      refine ⟨_, rfl, _, rfl, _, _, _, j, rfl, rfl, eq4, ixn (by rw [List.length_map]; exact hjl), ?_⟩
      have bt : But q0 H4 (upd H4 q0 (.lst ((as.map V.ref).set j (V.ref t)))) := But.set
      refine ⟨q0, as.set j t, l.recs.set j ⟨rc.dev, m, ev'⟩, _, rfl, fun c w hc => bt _ _ (ne_of_none hc nq) (s4 _ _ (s3 _ _ (s2 _ _ hc))), by rw [upd_same, List.map_set], ((he2.keep fun _ _ z => RcAt.keep (s3.trans s4) z).set (j := j) (a := t) (x := ⟨rc.dev, m, ev'⟩) ⟨ae, SqT.of e4, hev.keep s4⟩).keep fun _ _ z => RcAt.but bt eq4 z, fun r hr3 => ?_, by rw [List.length_set]; omega⟩
      rcases List.mem_or_eq_of_mem_set hr3 with h | rfl
      · exact hk.rs r h
      · exact ⟨hrk.d, m18, hek⟩
  rintro σ H3 ⟨q1, bs, rs, rv, rfl, s3, eq1, hE, hrs, hrl⟩
  have ht3 := sTup s3 ht
  refine ⟨_, rfl, _, rfl, _, _, rfl, ht3, not4 _ _ _ _ _, fun u nu => ?_⟩
  rw [cut4]
  have s4 : Same H3 (upd H3 u (.tup [.int l.s, .int l.r, .int l.k, .int l.n])) := same_upd nu
  have e4 : (upd H3 u (.tup [.int l.s, .int l.r, .int l.k, .int l.n])) u = some (.tup [.int l.s, .int l.r, .int l.k, .int l.n]) := upd_same
  generalize upd H3 u (.tup [.int l.s, .int l.r, .int l.k, .int l.n]) = H4 at *
  refine ⟨_, rfl, _, _, rfl, .inl ⟨SqL.of (s4 _ _ eq1), fun t nt => ⟨(by show 1 ≤ sizeLine; decide), fun w nw => ?_⟩⟩⟩
  have s5 : Same H4 (upd H4 t (.tup (bs.map V.ref))) := same_upd nt
  have e5 : (upd H4 t (.tup (bs.map V.ref))) t = some (.tup (bs.map V.ref)) := upd_same
  generalize upd H4 t (.tup (bs.map V.ref)) = H5 at *
  have s6 : Same H5 (upd H5 w (.tup [V.ref t])) := same_upd nw
  have e6 : (upd H5 w (.tup [V.ref t])) w = some (.tup [V.ref t]) := upd_same
  generalize upd H5 w (.tup [V.ref t]) = H6 at *
  refine ⟨_, _, _, _, rfl, rfl, SqT.of ((s5.trans s6) _ _ e4), SqT.of e6, by simp, (by show 5 ≤ sizeLine; decide), (fun h => by cases h), fun _ po npo => ?_⟩
  have s7 : Same H6 (upd H6 po (.tup ([.int l.s, .int l.r, .int l.k, .int l.n] ++ [.ref t]))) := same_upd npo
  have s37 := s4.trans (s5.trans (s6.trans s7))
  have ho : LtAt K (upd H6 po (.tup ([.int l.s, .int l.r, .int l.k, .int l.n] ++ [.ref t]))) po ⟨l.s, l.r, l.k, l.n, rs⟩ := ⟨t, bs, SqT.of upd_same, SqT.of ((s6.trans s7) _ _ e5), hE.keep fun _ _ z => RcAt.keep s37 z⟩
  have hok : (⟨l.s, l.r, l.k, l.n, rs⟩ : Lt).Ok := ⟨hk.s, hk.r, hk.k, hk.n, hrl, hrs⟩
  have hl7 := hlA.keep (s3.trans s37)
  generalize upd H6 po (.tup ([.int l.s, .int l.r, .int l.k, .int l.n] ++ [.ref t])) = H7 at *
  generalize (⟨l.s, l.r, l.k, l.n, rs⟩ : Lt) = o at *
  have dl := dep_L l
  have do_ := dep_L o
  refine ⟨_, rfl, _, rfl, _, _, dvL o, dvL l, rfl, denL ho hok, denL hl7 hk, by omega, ?_⟩
  refine ⟨_, rfl, po, o, rfl, ho, hok, fun H8 s8 => ⟨_, rfl, p, l, rfl, hl7.keep s8, hk, fun H9 s9 => ⟨rfl, _, rfl, rfl, _, rfl, ?_⟩⟩⟩
  have key := letter_text_iff hok hk
  rw [key]
  refine iteNS rfl ?_
  have s89 := s8.trans s9
  refine ⟨_, rfl, po, o, rfl, ho.keep s89, hok, fun H10 s10 => ⟨o, rfl, hok, fun r1 H11 s11 h11 => ⟨_, rfl, _, _, dvL o, dvL o, rfl, denL h11 hok, denL (ho.keep (s89.trans (s10.trans s11))) hok, by omega, ?_⟩⟩⟩
  rw [sameV_refl]
  refine ⟨_, rfl, iteT ?_⟩
  have s911 := s89.trans (s10.trans s11)
  refine ⟨_, rfl, p, l, rfl, hl7.keep s911, hk, fun H12 s12 => ⟨l, rfl, hk, fun r2 H13 s13 h13 => ⟨_, rfl, _, _, dvL l, dvL l, rfl, denL h13 hk, denL (hl7.keep (s911.trans (s12.trans s13))) hk, by omega, ?_⟩⟩⟩
  rw [sameV_refl]
  exact q H13
end
theorem all_mk {l : PySem.W.OpenLaw} {w : World} {K : PySem.W.Frag} {h : Heap} {mg : Str → Option Value} {fa : Addr} (X : K.In h) (G : h.Ns mainGlobals mg) (hfa : mg "law" = some (.ref fa))
    {C : Addr} {od0 an0 : Option Addr} {sl0 : Array (Option Value)} {oc0 kV0 dc0 pm0 cd0 ct0 : Value} {f0 : Addr} {od1 an1 : Option Addr} {sl1 : Array (Option Value)} {oc1 kV1 dc1 pm1 cd1 ct1 : Value} {f1 : Addr} {od2 an2 : Option Addr} {sl2 : Array (Option Value)} {oc2 kV2 dc2 pm2 cd2 ct2 : Value} {f2 : Addr} {od3 an3 : Option Addr} {sl3 : Array (Option Value)} {oc3 kV3 dc3 pm3 cd3 ct3 : Value} {f3 : Addr} {od4 an4 : Option Addr} {sl4 : Array (Option Value)} {oc4 kV4 dc4 pm4 cd4 ct4 : Value} {f4 : Addr} {od5 an5 : Option Addr} {sl5 : Array (Option Value)} {oc5 kV5 dc5 pm5 cd5 ct5 : Value} {f5 : Addr} {od6 an6 : Option Addr} {sl6 : Array (Option Value)} {oc6 kV6 dc6 pm6 cd6 ct6 : Value} {f6 : Addr} {od7 an7 : Option Addr} {sl7 : Array (Option Value)} {oc7 kV7 dc7 pm7 cd7 ct7 : Value} {f7 : Addr} {od8 an8 : Option Addr} {sl8 : Array (Option Value)} {oc8 kV8 dc8 pm8 cd8 ct8 : Value} {f8 : Addr} {od9 an9 : Option Addr} {sl9 : Array (Option Value)} {oc9 kV9 dc9 pm9 cd9 ct9 : Value} {f9 : Addr} {od10 an10 : Option Addr} {sl10 : Array (Option Value)} {oc10 kV10 dc10 pm10 cd10 ct10 : Value} {f10 : Addr} {od11 an11 : Option Addr} {sl11 : Array (Option Value)} {oc11 kV11 dc11 pm11 cd11 ct11 : Value} {f11 : Addr} {od12 an12 : Option Addr} {sl12 : Array (Option Value)} {oc12 kV12 dc12 pm12 cd12 ct12 : Value} {f12 : Addr} {od13 an13 : Option Addr} {sl13 : Array (Option Value)} {oc13 kV13 dc13 pm13 cd13 ct13 : Value} {f13 : Addr} {od14 an14 : Option Addr} {sl14 : Array (Option Value)} {oc14 kV14 dc14 pm14 cd14 ct14 : Value} {f14 : Addr} {od15 an15 : Option Addr} {sl15 : Array (Option Value)} {oc15 kV15 dc15 pm15 cd15 ct15 : Value} {f15 : Addr} {od16 an16 : Option Addr} {sl16 : Array (Option Value)} {oc16 kV16 dc16 pm16 cd16 ct16 : Value} {f16 : Addr} {od17 an17 : Option Addr} {sl17 : Array (Option Value)} {oc17 kV17 dc17 pm17 cd17 ct17 : Value} {f17 : Addr} {od18 an18 : Option Addr} {sl18 : Array (Option Value)} {oc18 kV18 dc18 pm18 cd18 ct18 : Value} {f18 : Addr} {od19 an19 : Option Addr} {sl19 : Array (Option Value)} {oc19 kV19 dc19 pm19 cd19 ct19 : Value} {f19 : Addr} {od20 an20 : Option Addr} {sl20 : Array (Option Value)} {oc20 kV20 dc20 pm20 cd20 ct20 : Value} {f20 : Addr} {od21 an21 : Option Addr} {sl21 : Array (Option Value)} {oc21 kV21 dc21 pm21 cd21 ct21 : Value} {f21 : Addr} {od22 an22 : Option Addr} {sl22 : Array (Option Value)} {oc22 kV22 dc22 pm22 cd22 ct22 : Value} {f22 : Addr} {od23 an23 : Option Addr} {sl23 : Array (Option Value)} {oc23 kV23 dc23 pm23 cd23 ct23 : Value} {f23 : Addr} {od24 an24 : Option Addr} {sl24 : Array (Option Value)} {oc24 kV24 dc24 pm24 cd24 ct24 : Value} {f24 : Addr} {od25 an25 : Option Addr} {sl25 : Array (Option Value)} {oc25 kV25 dc25 pm25 cd25 ct25 : Value} {f25 : Addr} {od26 an26 : Option Addr} {sl26 : Array (Option Value)} {oc26 kV26 dc26 pm26 cd26 ct26 : Value} {f26 : Addr} {od27 an27 : Option Addr} {sl27 : Array (Option Value)} {oc27 kV27 dc27 pm27 cd27 ct27 : Value} {f27 : Addr} {tD0 tD1 tD2 tD3 tD4 tD5 tD6 tD7 tD8 : Tok} {aD : Addr} {nD : Nat} {slD : Array (Option Value)} {t_LETTER_HEAD : Tok} {t_MOST_DIGITS : Tok}
    (aC_Taker : PySem.W.nsIn K mainGlobals "Taker" = some (some (.ref C))) (pg_Taker : PySem.W.plainGet K C Str.empty = true) (hd_Taker : PySem.W.hasDictIn K C = true) (po_Taker : PySem.W.plainOver K C = true) (sa_Taker : PySem.W.findIn K (.ref C) "__setattr__" = some (some (.builtin "object.__setattr__"))) (mk_Taker : PySem.W.makesIn K C = true) (kc_Taker : PySem.W.keepIn K (.ref C) = true) (n_Taker_integers : PySem.W.findIn K (.ref C) "integers" = some none) (n_Taker_taken : PySem.W.findIn K (.ref C) "taken" = some none)
    (a0 : PySem.W.nsIn K mainGlobals "write_integers" = some (some (.ref f0)))
    (l0 : K.lookup f0 = some ⟨oc0, od0, .func (PySem.W.fnOf "write_integers" "write_integers" (defArgs s_write_integers) (defBody s_write_integers) (defScope s_write_integers) .none kV0 dc0 pm0 an0 cd0 ct0), sl0⟩) (c0 : PySem.W.codeIn K cd0 "write_integers" = true) (k0 : PySem.W.keepIn K (.ref f0) = true)
    (a1 : PySem.W.nsIn K mainGlobals "put_sequence" = some (some (.ref f1)))
    (l1 : K.lookup f1 = some ⟨oc1, od1, .func (PySem.W.fnOf "put_sequence" "put_sequence" (defArgs s_put_sequence) (defBody s_put_sequence) (defScope s_put_sequence) .none kV1 dc1 pm1 an1 cd1 ct1), sl1⟩) (c1 : PySem.W.codeIn K cd1 "put_sequence" = true) (k1 : PySem.W.keepIn K (.ref f1) = true)
    (a2 : PySem.W.nsIn K mainGlobals "put_deed" = some (some (.ref f2)))
    (l2 : K.lookup f2 = some ⟨oc2, od2, .func (PySem.W.fnOf "put_deed" "put_deed" (defArgs s_put_deed) (defBody s_put_deed) (defScope s_put_deed) .none kV2 dc2 pm2 an2 cd2 ct2), sl2⟩) (c2 : PySem.W.codeIn K cd2 "put_deed" = true) (k2 : PySem.W.keepIn K (.ref f2) = true)
    (a3 : PySem.W.nsIn K mainGlobals "put_event" = some (some (.ref f3)))
    (l3 : K.lookup f3 = some ⟨oc3, od3, .func (PySem.W.fnOf "put_event" "put_event" (defArgs s_put_event) (defBody s_put_event) (defScope s_put_event) .none kV3 dc3 pm3 an3 cd3 ct3), sl3⟩) (c3 : PySem.W.codeIn K cd3 "put_event" = true) (k3 : PySem.W.keepIn K (.ref f3) = true)
    (a4 : PySem.W.nsIn K mainGlobals "write_letter" = some (some (.ref f4)))
    (l4 : K.lookup f4 = some ⟨oc4, od4, .func (PySem.W.fnOf "write_letter" "write_letter" (defArgs s_write_letter) (defBody s_write_letter) (defScope s_write_letter) .none kV4 dc4 pm4 an4 cd4 ct4), sl4⟩) (c4 : PySem.W.codeIn K cd4 "write_letter" = true) (k4 : PySem.W.keepIn K (.ref f4) = true)
    (a5 : PySem.W.nsIn K mainGlobals "is_integer" = some (some (.ref f5)))
    (l5 : K.lookup f5 = some ⟨oc5, od5, .func (PySem.W.fnOf "is_integer" "is_integer" (defArgs s_is_integer) (defBody s_is_integer) (defScope s_is_integer) .none kV5 dc5 pm5 an5 cd5 ct5), sl5⟩) (c5 : PySem.W.codeIn K cd5 "is_integer" = true) (k5 : PySem.W.keepIn K (.ref f5) = true)
    (a6 : PySem.W.nsIn K mainGlobals "read_integers" = some (some (.ref f6)))
    (l6 : K.lookup f6 = some ⟨oc6, od6, .func (PySem.W.fnOf "read_integers" "read_integers" (defArgs s_read_integers) (defBody s_read_integers) (defScope s_read_integers) .none kV6 dc6 pm6 an6 cd6 ct6), sl6⟩) (c6 : PySem.W.codeIn K cd6 "read_integers" = true) (k6 : PySem.W.keepIn K (.ref f6) = true)
    (a7 : PySem.W.findIn K (.ref C) "take_any" = some (some (.ref f7))) (i7 : PySem.W.isFn K (.ref f7) = true)
    (l7 : K.lookup f7 = some ⟨oc7, od7, .func (PySem.W.fnOf "take_any" "Taker.take_any" (defArgs s_take_any) (defBody s_take_any) (defScope s_take_any) .none kV7 dc7 pm7 an7 cd7 ct7), sl7⟩) (c7 : PySem.W.codeIn K cd7 "Taker.take_any" = true) (k7 : PySem.W.keepIn K (.ref f7) = true)
    (a8 : PySem.W.findIn K (.ref C) "take_number" = some (some (.ref f8))) (i8 : PySem.W.isFn K (.ref f8) = true)
    (l8 : K.lookup f8 = some ⟨oc8, od8, .func (PySem.W.fnOf "take_number" "Taker.take_number" (defArgs s_take_number) (defBody s_take_number) (defScope s_take_number) .none kV8 dc8 pm8 an8 cd8 ct8), sl8⟩) (c8 : PySem.W.codeIn K cd8 "Taker.take_number" = true) (k8 : PySem.W.keepIn K (.ref f8) = true)
    (a9 : PySem.W.findIn K (.ref C) "take_length" = some (some (.ref f9))) (i9 : PySem.W.isFn K (.ref f9) = true)
    (l9 : K.lookup f9 = some ⟨oc9, od9, .func (PySem.W.fnOf "take_length" "Taker.take_length" (defArgs s_take_length) (defBody s_take_length) (defScope s_take_length) .none kV9 dc9 pm9 an9 cd9 ct9), sl9⟩) (c9 : PySem.W.codeIn K cd9 "Taker.take_length" = true) (k9 : PySem.W.keepIn K (.ref f9) = true)
    (a10 : PySem.W.findIn K (.ref C) "take_numbers" = some (some (.ref f10))) (i10 : PySem.W.isFn K (.ref f10) = true)
    (l10 : K.lookup f10 = some ⟨oc10, od10, .func (PySem.W.fnOf "take_numbers" "Taker.take_numbers" (defArgs s_take_numbers) (defBody s_take_numbers) (defScope s_take_numbers) .none kV10 dc10 pm10 an10 cd10 ct10), sl10⟩) (c10 : PySem.W.codeIn K cd10 "Taker.take_numbers" = true) (k10 : PySem.W.keepIn K (.ref f10) = true)
    (a11 : PySem.W.nsIn K mainGlobals "take_deed" = some (some (.ref f11)))
    (l11 : K.lookup f11 = some ⟨oc11, od11, .func (PySem.W.fnOf "take_deed" "take_deed" (defArgs s_take_deed) (defBody s_take_deed) (defScope s_take_deed) .none kV11 dc11 pm11 an11 cd11 ct11), sl11⟩) (c11 : PySem.W.codeIn K cd11 "take_deed" = true) (k11 : PySem.W.keepIn K (.ref f11) = true)
    (a12 : PySem.W.findIn K (.ref C) "take_flag" = some (some (.ref f12))) (i12 : PySem.W.isFn K (.ref f12) = true)
    (l12 : K.lookup f12 = some ⟨oc12, od12, .func (PySem.W.fnOf "take_flag" "Taker.take_flag" (defArgs s_take_flag) (defBody s_take_flag) (defScope s_take_flag) .none kV12 dc12 pm12 an12 cd12 ct12), sl12⟩) (c12 : PySem.W.codeIn K cd12 "Taker.take_flag" = true) (k12 : PySem.W.keepIn K (.ref f12) = true)
    (a13 : PySem.W.findIn K (.ref C) "take_anys" = some (some (.ref f13))) (i13 : PySem.W.isFn K (.ref f13) = true)
    (l13 : K.lookup f13 = some ⟨oc13, od13, .func (PySem.W.fnOf "take_anys" "Taker.take_anys" (defArgs s_take_anys) (defBody s_take_anys) (defScope s_take_anys) .none kV13 dc13 pm13 an13 cd13 ct13), sl13⟩) (c13 : PySem.W.codeIn K cd13 "Taker.take_anys" = true) (k13 : PySem.W.keepIn K (.ref f13) = true)
    (a14 : PySem.W.nsIn K mainGlobals "take_event" = some (some (.ref f14)))
    (l14 : K.lookup f14 = some ⟨oc14, od14, .func (PySem.W.fnOf "take_event" "take_event" (defArgs s_take_event) (defBody s_take_event) (defScope s_take_event) .none kV14 dc14 pm14 an14 cd14 ct14), sl14⟩) (c14 : PySem.W.codeIn K cd14 "take_event" = true) (k14 : PySem.W.keepIn K (.ref f14) = true)
    (a15 : PySem.W.nsIn K mainGlobals "take_record" = some (some (.ref f15)))
    (l15 : K.lookup f15 = some ⟨oc15, od15, .func (PySem.W.fnOf "take_record" "take_record" (defArgs s_take_record) (defBody s_take_record) (defScope s_take_record) .none kV15 dc15 pm15 an15 cd15 ct15), sl15⟩) (c15 : PySem.W.codeIn K cd15 "take_record" = true) (k15 : PySem.W.keepIn K (.ref f15) = true)
    (a16 : PySem.W.findIn K (.ref C) "__init__" = some (some (.ref f16))) (i16 : PySem.W.isFn K (.ref f16) = true)
    (l16 : K.lookup f16 = some ⟨oc16, od16, .func (PySem.W.fnOf "__init__" "Taker.__init__" (defArgs s___init__) (defBody s___init__) (defScope s___init__) .none kV16 dc16 pm16 an16 cd16 ct16), sl16⟩) (c16 : PySem.W.codeIn K cd16 "Taker.__init__" = true) (k16 : PySem.W.keepIn K (.ref f16) = true)
    (a17 : PySem.W.findIn K (.ref C) "take_end" = some (some (.ref f17))) (i17 : PySem.W.isFn K (.ref f17) = true)
    (l17 : K.lookup f17 = some ⟨oc17, od17, .func (PySem.W.fnOf "take_end" "Taker.take_end" (defArgs s_take_end) (defBody s_take_end) (defScope s_take_end) .none kV17 dc17 pm17 an17 cd17 ct17), sl17⟩) (c17 : PySem.W.codeIn K cd17 "Taker.take_end" = true) (k17 : PySem.W.keepIn K (.ref f17) = true)
    (a18 : PySem.W.nsIn K mainGlobals "read_letter" = some (some (.ref f18)))
    (l18 : K.lookup f18 = some ⟨oc18, od18, .func (PySem.W.fnOf "read_letter" "read_letter" (defArgs s_read_letter) (defBody s_read_letter) (defScope s_read_letter) .none kV18 dc18 pm18 an18 cd18 ct18), sl18⟩) (c18 : PySem.W.codeIn K cd18 "read_letter" = true) (k18 : PySem.W.keepIn K (.ref f18) = true)
    (a19 : PySem.W.nsIn K mainGlobals "_law_cell" = some (some (.ref f19)))
    (l19 : K.lookup f19 = some ⟨oc19, od19, .func (PySem.W.fnOf "_law_cell" "_law_cell" (defArgs s__law_cell) (defBody s__law_cell) (defScope s__law_cell) .none kV19 dc19 pm19 an19 cd19 ct19), sl19⟩) (c19 : PySem.W.codeIn K cd19 "_law_cell" = true) (k19 : PySem.W.keepIn K (.ref f19) = true)
    (a20 : PySem.W.nsIn K mainGlobals "_law_values" = some (some (.ref f20)))
    (l20 : K.lookup f20 = some ⟨oc20, od20, .func (PySem.W.fnOf "_law_values" "_law_values" (defArgs s__law_values) (defBody s__law_values) (defScope s__law_values) .none kV20 dc20 pm20 an20 cd20 ct20), sl20⟩) (c20 : PySem.W.codeIn K cd20 "_law_values" = true) (k20 : PySem.W.keepIn K (.ref f20) = true)
    (a21 : PySem.W.nsIn K mainGlobals "_law_deed" = some (some (.ref f21)))
    (l21 : K.lookup f21 = some ⟨oc21, od21, .func (PySem.W.fnOf "_law_deed" "_law_deed" (defArgs s__law_deed) (defBody s__law_deed) (defScope s__law_deed) .none kV21 dc21 pm21 an21 cd21 ct21), sl21⟩) (c21 : PySem.W.codeIn K cd21 "_law_deed" = true) (k21 : PySem.W.keepIn K (.ref f21) = true)
    (a22 : PySem.W.nsIn K mainGlobals "_law_event" = some (some (.ref f22)))
    (l22 : K.lookup f22 = some ⟨oc22, od22, .func (PySem.W.fnOf "_law_event" "_law_event" (defArgs s__law_event) (defBody s__law_event) (defScope s__law_event) .none kV22 dc22 pm22 an22 cd22 ct22), sl22⟩) (c22 : PySem.W.codeIn K cd22 "_law_event" = true) (k22 : PySem.W.keepIn K (.ref f22) = true)
    (a23 : PySem.W.nsIn K mainGlobals "_law_letter" = some (some (.ref f23)))
    (l23 : K.lookup f23 = some ⟨oc23, od23, .func (PySem.W.fnOf "_law_letter" "_law_letter" (defArgs s__law_letter) (defBody s__law_letter) (defScope s__law_letter) .none kV23 dc23 pm23 an23 cd23 ct23), sl23⟩) (c23 : PySem.W.codeIn K cd23 "_law_letter" = true) (k23 : PySem.W.keepIn K (.ref f23) = true)
    (a24 : PySem.W.nsIn K mainGlobals "_law_same" = some (some (.ref f24)))
    (l24 : K.lookup f24 = some ⟨oc24, od24, .func (PySem.W.fnOf "_law_same" "_law_same" (defArgs s__law_same) (defBody s__law_same) (defScope s__law_same) .none kV24 dc24 pm24 an24 cd24 ct24), sl24⟩) (c24 : PySem.W.codeIn K cd24 "_law_same" = true) (k24 : PySem.W.keepIn K (.ref f24) = true)
    (a25 : PySem.W.nsIn K mainGlobals "_law_next" = some (some (.ref f25)))
    (l25 : K.lookup f25 = some ⟨oc25, od25, .func (PySem.W.fnOf "_law_next" "_law_next" (defArgs s__law_next) (defBody s__law_next) (defScope s__law_next) .none kV25 dc25 pm25 an25 cd25 ct25), sl25⟩) (c25 : PySem.W.codeIn K cd25 "_law_next" = true) (k25 : PySem.W.keepIn K (.ref f25) = true)
    (a26 : PySem.W.nsIn K mainGlobals "_law_turned" = some (some (.ref f26)))
    (l26 : K.lookup f26 = some ⟨oc26, od26, .func (PySem.W.fnOf "_law_turned" "_law_turned" (defArgs s__law_turned) (defBody s__law_turned) (defScope s__law_turned) .none kV26 dc26 pm26 an26 cd26 ct26), sl26⟩) (c26 : PySem.W.codeIn K cd26 "_law_turned" = true) (k26 : PySem.W.keepIn K (.ref f26) = true)
    (a27 : PySem.W.nsIn K mainGlobals "law" = some (some (.ref f27)))
    (l27 : K.lookup f27 = some ⟨oc27, od27, .func (PySem.W.fnOf "law" "law" (defArgs s_law) (defBody s_law) (defScope s_law) .none kV27 dc27 pm27 an27 cd27 ct27), sl27⟩) (c27 : PySem.W.codeIn K cd27 "law" = true) (k27 : PySem.W.keepIn K (.ref f27) = true)
    (z_len : PySem.W.nsIn K mainGlobals "len" = some none)
    (z_str : PySem.W.nsIn K mainGlobals "str" = some none)
    (z_int : PySem.W.nsIn K mainGlobals "int" = some none)
    (z_range : PySem.W.nsIn K mainGlobals "range" = some none)
    (z_tuple : PySem.W.nsIn K mainGlobals "tuple" = some none)
    (z_list : PySem.W.nsIn K mainGlobals "list" = some none)
    (z_isinstance : PySem.W.nsIn K mainGlobals "isinstance" = some none)
    (z_bool : PySem.W.nsIn K mainGlobals "bool" = some none)
    (z_all : PySem.W.nsIn K mainGlobals "all" = some none)
    (aDm : PySem.W.nsIn K mainGlobals "DEEDS" = some (some (.ref aD))) (lD : K.lookup aD = some ⟨.type "tuple", none, .seq #[.str "note" tD0, .str "kind" tD1, .str "mark" tD2, .str "send" tD3, .str "tell" tD4, .str "hear" tD5, .str "promise" tD6, .str "commit" tD7, .str "anew" tD8] nD, slD⟩)
    (z_LETTER_HEAD : PySem.W.nsIn K mainGlobals "LETTER_HEAD" = some (some (.str "whensure letter" t_LETTER_HEAD)))
    (z_MOST_DIGITS : PySem.W.nsIn K mainGlobals "MOST_DIGITS" = some (some (.int 18 t_MOST_DIGITS))) :
    ∃ fd : FuncData, (∀ (s : Shared) (v : Value), BindsTo s fd ⟨[v], []⟩ [("script", v)]) ∧ ∀ base : Heap, K.In base → base.Ns mainGlobals mg → FnOk l.prog w K mg base CX0 9 fa fd ["script"] (sp_law K) := by
  have e := hfa.symm.trans (PySem.W.mg_of X G a27)
  cases e
  have TK : Tk K mg C := ⟨⟨pg_Taker, hd_Taker, po_Taker, sa_Taker⟩, n_Taker_integers, n_Taker_taken, PySem.W.mg_of X G aC_Taker⟩
  have F0 := fun_mk (st := s_write_integers) l0 c0 k0
  have D_write_integers : Df K mg "write_integers" s_write_integers ["head", "integers"] _ _ := ⟨F0, F0.binds (ps := ["head", "integers"]) fun _ _ _ _ _ _ us hl => match us, hl with | [_, _], _ => rfl, PySem.W.mg_of X G a0⟩
  have F1 := fun_mk (st := s_put_sequence) l1 c1 k1
  have D_put_sequence : Df K mg "put_sequence" s_put_sequence ["out", "integers"] _ _ := ⟨F1, F1.binds (ps := ["out", "integers"]) fun _ _ _ _ _ _ us hl => match us, hl with | [_, _], _ => rfl, PySem.W.mg_of X G a1⟩
  have F2 := fun_mk (st := s_put_deed) l2 c2 k2
  have D_put_deed : Df K mg "put_deed" s_put_deed ["out", "deed"] _ _ := ⟨F2, F2.binds (ps := ["out", "deed"]) fun _ _ _ _ _ _ us hl => match us, hl with | [_, _], _ => rfl, PySem.W.mg_of X G a2⟩
  have F3 := fun_mk (st := s_put_event) l3 c3 k3
  have D_put_event : Df K mg "put_event" s_put_event ["out", "event"] _ _ := ⟨F3, F3.binds (ps := ["out", "event"]) fun _ _ _ _ _ _ us hl => match us, hl with | [_, _], _ => rfl, PySem.W.mg_of X G a3⟩
  have F4 := fun_mk (st := s_write_letter) l4 c4 k4
  have D_write_letter : Df K mg "write_letter" s_write_letter ["letter"] _ _ := ⟨F4, F4.binds (ps := ["letter"]) fun _ _ _ _ _ _ us hl => match us, hl with | [_], _ => rfl, PySem.W.mg_of X G a4⟩
  have F5 := fun_mk (st := s_is_integer) l5 c5 k5
  have D_is_integer : Df K mg "is_integer" s_is_integer ["word", "most_digits"] _ _ := ⟨F5, F5.binds (ps := ["word", "most_digits"]) fun _ _ _ _ _ _ us hl => match us, hl with | [_, _], _ => rfl, PySem.W.mg_of X G a5⟩
  have F6 := fun_mk (st := s_read_integers) l6 c6 k6
  have D_read_integers : Df K mg "read_integers" s_read_integers ["head", "text", "most_digits"] _ _ := ⟨F6, F6.binds (ps := ["head", "text", "most_digits"]) fun _ _ _ _ _ _ us hl => match us, hl with | [_, _, _], _ => rfl, PySem.W.mg_of X G a6⟩
  have F7 := fun_mk (st := s_take_any) l7 c7 k7
  have M_take_any : Mt K C "take_any" "Taker.take_any" s_take_any ["self"] _ _ := ⟨F7, F7.binds (ps := ["self"]) fun _ _ _ _ _ _ us hl => match us, hl with | [_], _ => rfl, ⟨a7, i7, k7⟩⟩
  have F8 := fun_mk (st := s_take_number) l8 c8 k8
  have M_take_number : Mt K C "take_number" "Taker.take_number" s_take_number ["self"] _ _ := ⟨F8, F8.binds (ps := ["self"]) fun _ _ _ _ _ _ us hl => match us, hl with | [_], _ => rfl, ⟨a8, i8, k8⟩⟩
  have F9 := fun_mk (st := s_take_length) l9 c9 k9
  have M_take_length : Mt K C "take_length" "Taker.take_length" s_take_length ["self"] _ _ := ⟨F9, F9.binds (ps := ["self"]) fun _ _ _ _ _ _ us hl => match us, hl with | [_], _ => rfl, ⟨a9, i9, k9⟩⟩
  have F10 := fun_mk (st := s_take_numbers) l10 c10 k10
  have M_take_numbers : Mt K C "take_numbers" "Taker.take_numbers" s_take_numbers ["self"] _ _ := ⟨F10, F10.binds (ps := ["self"]) fun _ _ _ _ _ _ us hl => match us, hl with | [_], _ => rfl, ⟨a10, i10, k10⟩⟩
  have F11 := fun_mk (st := s_take_deed) l11 c11 k11
  have D_take_deed : Df K mg "take_deed" s_take_deed ["taker"] _ _ := ⟨F11, F11.binds (ps := ["taker"]) fun _ _ _ _ _ _ us hl => match us, hl with | [_], _ => rfl, PySem.W.mg_of X G a11⟩
  have F12 := fun_mk (st := s_take_flag) l12 c12 k12
  have M_take_flag : Mt K C "take_flag" "Taker.take_flag" s_take_flag ["self"] _ _ := ⟨F12, F12.binds (ps := ["self"]) fun _ _ _ _ _ _ us hl => match us, hl with | [_], _ => rfl, ⟨a12, i12, k12⟩⟩
  have F13 := fun_mk (st := s_take_anys) l13 c13 k13
  have M_take_anys : Mt K C "take_anys" "Taker.take_anys" s_take_anys ["self"] _ _ := ⟨F13, F13.binds (ps := ["self"]) fun _ _ _ _ _ _ us hl => match us, hl with | [_], _ => rfl, ⟨a13, i13, k13⟩⟩
  have F14 := fun_mk (st := s_take_event) l14 c14 k14
  have D_take_event : Df K mg "take_event" s_take_event ["taker"] _ _ := ⟨F14, F14.binds (ps := ["taker"]) fun _ _ _ _ _ _ us hl => match us, hl with | [_], _ => rfl, PySem.W.mg_of X G a14⟩
  have F15 := fun_mk (st := s_take_record) l15 c15 k15
  have D_take_record : Df K mg "take_record" s_take_record ["taker"] _ _ := ⟨F15, F15.binds (ps := ["taker"]) fun _ _ _ _ _ _ us hl => match us, hl with | [_], _ => rfl, PySem.W.mg_of X G a15⟩
  have F16 := fun_mk (st := s___init__) l16 c16 k16
  have M___init__ : Mt K C "__init__" "Taker.__init__" s___init__ ["self", "integers"] _ _ := ⟨F16, F16.binds (ps := ["self", "integers"]) fun _ _ _ _ _ _ us hl => match us, hl with | [_, _], _ => rfl, ⟨a16, i16, k16⟩⟩
  have MK : Mk K C _ := ⟨mk_Taker, a16, i16, kc_Taker⟩
  have F17 := fun_mk (st := s_take_end) l17 c17 k17
  have M_take_end : Mt K C "take_end" "Taker.take_end" s_take_end ["self"] _ _ := ⟨F17, F17.binds (ps := ["self"]) fun _ _ _ _ _ _ us hl => match us, hl with | [_], _ => rfl, ⟨a17, i17, k17⟩⟩
  have F18 := fun_mk (st := s_read_letter) l18 c18 k18
  have D_read_letter : Df K mg "read_letter" s_read_letter ["text"] _ _ := ⟨F18, F18.binds (ps := ["text"]) fun _ _ _ _ _ _ us hl => match us, hl with | [_], _ => rfl, PySem.W.mg_of X G a18⟩
  have F19 := fun_mk (st := s__law_cell) l19 c19 k19
  have D__law_cell : Df K mg "_law_cell" s__law_cell ["script", "k"] _ _ := ⟨F19, F19.binds (ps := ["script", "k"]) fun _ _ _ _ _ _ us hl => match us, hl with | [_, _], _ => rfl, PySem.W.mg_of X G a19⟩
  have F20 := fun_mk (st := s__law_values) l20 c20 k20
  have D__law_values : Df K mg "_law_values" s__law_values ["seed", "count", "signed"] _ _ := ⟨F20, F20.binds (ps := ["seed", "count", "signed"]) fun _ _ _ _ _ _ us hl => match us, hl with | [_, _, _], _ => rfl, PySem.W.mg_of X G a20⟩
  have F21 := fun_mk (st := s__law_deed) l21 c21 k21
  have D__law_deed : Df K mg "_law_deed" s__law_deed ["shape", "seed"] _ _ := ⟨F21, F21.binds (ps := ["shape", "seed"]) fun _ _ _ _ _ _ us hl => match us, hl with | [_, _], _ => rfl, PySem.W.mg_of X G a21⟩
  have F22 := fun_mk (st := s__law_event) l22 c22 k22
  have D__law_event : Df K mg "_law_event" s__law_event ["first", "second", "third"] _ _ := ⟨F22, F22.binds (ps := ["first", "second", "third"]) fun _ _ _ _ _ _ us hl => match us, hl with | [_, _, _], _ => rfl, PySem.W.mg_of X G a22⟩
  have F23 := fun_mk (st := s__law_letter) l23 c23 k23
  have D__law_letter : Df K mg "_law_letter" s__law_letter ["script", "most"] _ _ := ⟨F23, F23.binds (ps := ["script", "most"]) fun _ _ _ _ _ _ us hl => match us, hl with | [_, _], _ => rfl, PySem.W.mg_of X G a23⟩
  have F24 := fun_mk (st := s__law_same) l24 c24 k24
  have D__law_same : Df K mg "_law_same" s__law_same ["actual", "expected"] _ _ := ⟨F24, F24.binds (ps := ["actual", "expected"]) fun _ _ _ _ _ _ us hl => match us, hl with | [_, _], _ => rfl, PySem.W.mg_of X G a24⟩
  have F25 := fun_mk (st := s__law_next) l25 c25 k25
  have D__law_next : Df K mg "_law_next" s__law_next ["number", "step"] _ _ := ⟨F25, F25.binds (ps := ["number", "step"]) fun _ _ _ _ _ _ us hl => match us, hl with | [_, _], _ => rfl, PySem.W.mg_of X G a25⟩
  have F26 := fun_mk (st := s__law_turned) l26 c26 k26
  have D__law_turned : Df K mg "_law_turned" s__law_turned ["event", "shape"] _ _ := ⟨F26, F26.binds (ps := ["event", "shape"]) fun _ _ _ _ _ _ us hl => match us, hl with | [_, _], _ => rfl, PySem.W.mg_of X G a26⟩
  have F27 := fun_mk (st := s_law) l27 c27 k27
  have D_law : Df K mg "law" s_law ["script"] _ _ := ⟨F27, F27.binds (ps := ["script"]) fun _ _ _ _ _ _ us hl => match us, hl with | [_], _ => rfl, PySem.W.mg_of X G a27⟩
  have DS : Deeds K mg aD := ⟨PySem.W.mg_of X G aDm, ⟨_, lD, rfl, rfl⟩, fun H => .inr ⟨_, _, _, lD, rfl, rfl, (show 9 ≤ sizeLine by decide), .cons ⟨_, rfl⟩ (.cons ⟨_, rfl⟩ (.cons ⟨_, rfl⟩ (.cons ⟨_, rfl⟩ (.cons ⟨_, rfl⟩ (.cons ⟨_, rfl⟩ (.cons ⟨_, rfl⟩ (.cons ⟨_, rfl⟩ (.cons ⟨_, rfl⟩ (.nil)))))))))⟩⟩
  have g_LETTER_HEAD := PySem.W.mg_of X G z_LETTER_HEAD
  have g_MOST_DIGITS := PySem.W.mg_of X G z_MOST_DIGITS
  have T : Txt K mg := ⟨PySem.W.mg_none_of X G z_len, PySem.W.mg_none_of X G z_str, PySem.W.mg_none_of X G z_int, PySem.W.mg_none_of X G z_range, PySem.W.mg_none_of X G z_tuple, PySem.W.mg_none_of X G z_list, PySem.W.mg_none_of X G z_isinstance, PySem.W.mg_none_of X G z_bool, PySem.W.mg_none_of X G z_all⟩
  refine ⟨PySem.W.fnOf "law" "law" (defArgs s_law) (defBody s_law) (defScope s_law) .none kV27 dc27 pm27 an27 cd27 ct27, fun s v => .of_eq rfl, fun base _ _ => ?_⟩
  have G_write_integers : FnOk l.prog w K mg base CX0 1 _ _ ["head", "integers"] (sp_write_integers K) := ok_write_integers D_write_integers T  
  have G_put_sequence : FnOk l.prog w K mg base CX0 1 _ _ ["out", "integers"] (sp_put_sequence K) := ok_put_sequence D_put_sequence T  
  have G_put_deed : FnOk l.prog w K mg base CX0 2 _ _ ["out", "deed"] (sp_put_deed K) := ok_put_deed D_put_deed T DS D_put_sequence G_put_sequence
  have G_put_event : FnOk l.prog w K mg base CX0 3 _ _ ["out", "event"] (sp_put_event K) := ok_put_event D_put_event T  D_put_sequence G_put_sequence D_put_deed G_put_deed
  have G_write_letter : FnOk l.prog w K mg base CX0 4 _ _ ["letter"] (sp_write_letter K) := ok_write_letter D_write_letter T g_LETTER_HEAD D_write_integers G_write_integers D_put_event G_put_event
  have G_is_integer : FnOk l.prog w K mg base CX0 1 _ _ ["word", "most_digits"] (sp_is_integer K) := ok_is_integer D_is_integer T  
  have G_read_integers : FnOk l.prog w K mg base CX0 2 _ _ ["head", "text", "most_digits"] (sp_read_integers K) := ok_read_integers D_read_integers T  D_is_integer G_is_integer
  have G_take_any : FnOk l.prog w K mg base CX0 1 _ _ ["self"] (sp_take_any K C) := ok_take_any TK M_take_any T  
  have G_take_number : FnOk l.prog w K mg base CX0 2 _ _ ["self"] (sp_take_number K C) := ok_take_number TK M_take_number T  M_take_any G_take_any
  have G_take_length : FnOk l.prog w K mg base CX0 3 _ _ ["self"] (sp_take_length K C) := ok_take_length TK M_take_length T  M_take_number G_take_number
  have G_take_numbers : FnOk l.prog w K mg base CX0 4 _ _ ["self"] (sp_take_numbers K C) := ok_take_numbers TK M_take_numbers T  M_take_number G_take_number M_take_length G_take_length
  have G_take_deed : FnOk l.prog w K mg base CX0 5 _ _ ["taker"] (sp_take_deed K C) := ok_take_deed TK D_take_deed T DS M_take_any G_take_any M_take_number G_take_number M_take_numbers G_take_numbers
  have G_take_flag : FnOk l.prog w K mg base CX0 2 _ _ ["self"] (sp_take_flag K C) := ok_take_flag TK M_take_flag T  M_take_any G_take_any
  have G_take_anys : FnOk l.prog w K mg base CX0 4 _ _ ["self"] (sp_take_anys K C) := ok_take_anys TK M_take_anys T  M_take_any G_take_any M_take_length G_take_length
  have G_take_event : FnOk l.prog w K mg base CX0 6 _ _ ["taker"] (sp_take_event K C) := ok_take_event TK D_take_event T  D_take_deed G_take_deed M_take_flag G_take_flag M_take_anys G_take_anys M_take_numbers G_take_numbers
  have G_take_record : FnOk l.prog w K mg base CX0 7 _ _ ["taker"] (sp_take_record K C) := ok_take_record TK D_take_record T  D_take_event G_take_event M_take_number G_take_number
  have G___init__ : FnOk l.prog w K mg base CX0 1 _ _ ["self", "integers"] (sp___init__ K C) := ok___init__ TK M___init__ T  
  have G_take_end : FnOk l.prog w K mg base CX0 1 _ _ ["self"] (sp_take_end K C) := ok_take_end TK M_take_end T  
  have G_read_letter : FnOk l.prog w K mg base CX0 8 _ _ ["text"] (sp_read_letter K) := ok_read_letter TK MK D_read_letter T g_LETTER_HEAD g_MOST_DIGITS D_read_integers G_read_integers D_take_record G_take_record M___init__ G___init__ M_take_number G_take_number M_take_length G_take_length M_take_end G_take_end
  have G__law_cell : FnOk l.prog w K mg base CX0 1 _ _ ["script", "k"] (sp__law_cell K) := ok__law_cell D__law_cell T  
  have G__law_values : FnOk l.prog w K mg base CX0 1 _ _ ["seed", "count", "signed"] (sp__law_values K) := ok__law_values D__law_values T  
  have G__law_deed : FnOk l.prog w K mg base CX0 2 _ _ ["shape", "seed"] (sp__law_deed K) := ok__law_deed D__law_deed T  D__law_values G__law_values
  have G__law_event : FnOk l.prog w K mg base CX0 3 _ _ ["first", "second", "third"] (sp__law_event K) := ok__law_event D__law_event T  D__law_values G__law_values D__law_deed G__law_deed
  have G__law_letter : FnOk l.prog w K mg base CX0 4 _ _ ["script", "most"] (sp__law_letter K) := ok__law_letter D__law_letter T  D__law_cell G__law_cell D__law_values G__law_values D__law_event G__law_event
  have G__law_same : FnOk l.prog w K mg base CX0 8 _ _ ["actual", "expected"] (sp__law_same K 8) := ok__law_same D__law_same T  
  have G__law_next : FnOk l.prog w K mg base CX0 1 _ _ ["number", "step"] (sp__law_next K) := ok__law_next D__law_next T  
  have G__law_turned : FnOk l.prog w K mg base CX0 2 _ _ ["event", "shape"] (sp__law_turned K) := ok__law_turned D__law_turned T  D__law_next G__law_next
  have G_law : FnOk l.prog w K mg base CX0 9 _ _ ["script"] (sp_law K) := ok_law TK D_law T  D_write_letter G_write_letter D_read_letter G_read_letter D__law_cell G__law_cell D__law_event G__law_event D__law_letter G__law_letter D__law_same G__law_same D__law_next G__law_next D__law_turned G__law_turned
  exact G_law
theorem walk {l : PySem.W.OpenLaw} {q : Program} {loose : List Str} {XP : (Str → Option Value) → Heap → Prop} {YP : World → Heap → Prop} {d : DefRec} {K : Params → PySem.W.Frag} (hn : l.most = some 63) (hdf : d.params.defaults = [])
    (hY : ∀ (w : World) (h : Heap), YP w h → (K w.params).In h)
    (F : ∀ (w : World) (mg : Str → Option Value) (fa : Addr) (h : Heap), (K w.params).In h → h.Ns mainGlobals mg → mg d.name = some (.ref fa) →
      ∃ fd : FuncData, (∀ (s : Shared) (u : Value), BindsTo s fd ⟨[u], []⟩ [("script", u)]) ∧ ∀ base : Heap, (K w.params).In base → base.Ns mainGlobals mg → FnOk l.prog w (K w.params) mg base CX0 9 fa fd ["script"] (sp_law (K w.params))) :
    PySem.W.WalkO q loose XP YP l.row.toRowW d [] (fun f vs => PySem.call f vs) :=
  L2.walk_of (n := 63) (k := 9) (x := "script") (CX := fun _ => CX0) (sp := fun w => sp_law (K w.params)) hn (by decide) hdf ⟨rfl, by decide, by decide⟩ hY F (fun _ _ a ns hl _ hS => ⟨a, ns, rfl, hS, hl, fun _ => rfl⟩) fun _ _ _ _ _ z => z
end Vs
open PySem PySem.W PyProof.Rows
set_option maxRecDepth 100000 in
set_option maxHeartbeats 0 in
theorem PySem.Challenge.cw_whensure_k19_texts_tell_all_holds : PySem.Challenge.rw_whensure_k19_texts_tell_all.Holds := by
  w_on; o_law; k_head; (case hw => w_witness2)
  k_fill
  refine Vs.walk (l := PySem.Challenge.rw_whensure_k19_texts_tell_all) rfl rfl (fun w h Y => PySem.W.kIn_of Y) ?F
  case F =>
    intro w mg fa h KX G hmg
    refine' Vs.all_mk KX G hmg ?aC_Taker ?pg_Taker ?hd_Taker ?po_Taker ?sa_Taker ?mk_Taker ?kc_Taker ?n_Taker_integers ?n_Taker_taken ?a0 ?l0 ?c0 ?k0 ?a1 ?l1 ?c1 ?k1 ?a2 ?l2 ?c2 ?k2 ?a3 ?l3 ?c3 ?k3 ?a4 ?l4 ?c4 ?k4 ?a5 ?l5 ?c5 ?k5 ?a6 ?l6 ?c6 ?k6 ?a7 ?i7 ?l7 ?c7 ?k7 ?a8 ?i8 ?l8 ?c8 ?k8 ?a9 ?i9 ?l9 ?c9 ?k9 ?a10 ?i10 ?l10 ?c10 ?k10 ?a11 ?l11 ?c11 ?k11 ?a12 ?i12 ?l12 ?c12 ?k12 ?a13 ?i13 ?l13 ?c13 ?k13 ?a14 ?l14 ?c14 ?k14 ?a15 ?l15 ?c15 ?k15 ?a16 ?i16 ?l16 ?c16 ?k16 ?a17 ?i17 ?l17 ?c17 ?k17 ?a18 ?l18 ?c18 ?k18 ?a19 ?l19 ?c19 ?k19 ?a20 ?l20 ?c20 ?k20 ?a21 ?l21 ?c21 ?k21 ?a22 ?l22 ?c22 ?k22 ?a23 ?l23 ?c23 ?k23 ?a24 ?l24 ?c24 ?k24 ?a25 ?l25 ?c25 ?k25 ?a26 ?l26 ?c26 ?k26 ?a27 ?l27 ?c27 ?k27 ?z_len ?z_str ?z_int ?z_range ?z_tuple ?z_list ?z_isinstance ?z_bool ?z_all ?aDm ?lD ?z_LETTER_HEAD ?z_MOST_DIGITS
    (case aC_Taker => k_is)
    (case pg_Taker => k_is)
    (case hd_Taker => k_is)
    (case po_Taker => k_is)
    (case sa_Taker => k_is)
    (case mk_Taker => k_is)
    (case kc_Taker => k_is)
    (case n_Taker_integers => k_is)
    (case n_Taker_taken => k_is)
    (case a0 => k_is)
    (case l0 => k_is)
    (case c0 => k_is)
    (case k0 => k_is)
    (case a1 => k_is)
    (case l1 => k_is)
    (case c1 => k_is)
    (case k1 => k_is)
    (case a2 => k_is)
    (case l2 => k_is)
    (case c2 => k_is)
    (case k2 => k_is)
    (case a3 => k_is)
    (case l3 => k_is)
    (case c3 => k_is)
    (case k3 => k_is)
    (case a4 => k_is)
    (case l4 => k_is)
    (case c4 => k_is)
    (case k4 => k_is)
    (case a5 => k_is)
    (case l5 => k_is)
    (case c5 => k_is)
    (case k5 => k_is)
    (case a6 => k_is)
    (case l6 => k_is)
    (case c6 => k_is)
    (case k6 => k_is)
    (case a7 => k_is)
    (case i7 => k_is)
    (case l7 => k_is)
    (case c7 => k_is)
    (case k7 => k_is)
    (case a8 => k_is)
    (case i8 => k_is)
    (case l8 => k_is)
    (case c8 => k_is)
    (case k8 => k_is)
    (case a9 => k_is)
    (case i9 => k_is)
    (case l9 => k_is)
    (case c9 => k_is)
    (case k9 => k_is)
    (case a10 => k_is)
    (case i10 => k_is)
    (case l10 => k_is)
    (case c10 => k_is)
    (case k10 => k_is)
    (case a11 => k_is)
    (case l11 => k_is)
    (case c11 => k_is)
    (case k11 => k_is)
    (case a12 => k_is)
    (case i12 => k_is)
    (case l12 => k_is)
    (case c12 => k_is)
    (case k12 => k_is)
    (case a13 => k_is)
    (case i13 => k_is)
    (case l13 => k_is)
    (case c13 => k_is)
    (case k13 => k_is)
    (case a14 => k_is)
    (case l14 => k_is)
    (case c14 => k_is)
    (case k14 => k_is)
    (case a15 => k_is)
    (case l15 => k_is)
    (case c15 => k_is)
    (case k15 => k_is)
    (case a16 => k_is)
    (case i16 => k_is)
    (case l16 => k_is)
    (case c16 => k_is)
    (case k16 => k_is)
    (case a17 => k_is)
    (case i17 => k_is)
    (case l17 => k_is)
    (case c17 => k_is)
    (case k17 => k_is)
    (case a18 => k_is)
    (case l18 => k_is)
    (case c18 => k_is)
    (case k18 => k_is)
    (case a19 => k_is)
    (case l19 => k_is)
    (case c19 => k_is)
    (case k19 => k_is)
    (case a20 => k_is)
    (case l20 => k_is)
    (case c20 => k_is)
    (case k20 => k_is)
    (case a21 => k_is)
    (case l21 => k_is)
    (case c21 => k_is)
    (case k21 => k_is)
    (case a22 => k_is)
    (case l22 => k_is)
    (case c22 => k_is)
    (case k22 => k_is)
    (case a23 => k_is)
    (case l23 => k_is)
    (case c23 => k_is)
    (case k23 => k_is)
    (case a24 => k_is)
    (case l24 => k_is)
    (case c24 => k_is)
    (case k24 => k_is)
    (case a25 => k_is)
    (case l25 => k_is)
    (case c25 => k_is)
    (case k25 => k_is)
    (case a26 => k_is)
    (case l26 => k_is)
    (case c26 => k_is)
    (case k26 => k_is)
    (case a27 => k_is)
    (case l27 => k_is)
    (case c27 => k_is)
    (case k27 => k_is)
    (case z_len => k_is)
    (case z_str => k_is)
    (case z_int => k_is)
    (case z_range => k_is)
    (case z_tuple => k_is)
    (case z_list => k_is)
    (case z_isinstance => k_is)
    (case z_bool => k_is)
    (case z_all => k_is)
    (case aDm => k_is)
    (case lD => k_is)
    (case z_LETTER_HEAD => k_is)
    (case z_MOST_DIGITS => k_is)
#print axioms PySem.Challenge.cw_whensure_k19_texts_tell_all_holds
