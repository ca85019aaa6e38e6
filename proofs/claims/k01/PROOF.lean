import PyProof.Rows.All
import Wide.All
import OpenK.AllK
import Wide.FinOn
import HandS.ForMost
import HandS.Strs
import HandS.IsInst
import HandS.StrMore
import HandS.NoneIn
import KE.DataEq
import HandS.TupAny
import HandS.Codes
import HandS.Wide
import HandS.FStr
import HandS.Property
import HandS.Walk
import HandS.More
import PySem.Challenge.RW_whensure_k01_parts_are_numbered
set_option Elab.async false
set_option linter.all false
set_option maxRecDepth 100000
namespace Vs
open PySem PySem.Spec PyProof.Rows L2

theorem posJ {j : Int} (h : decide (0 < j) = true) : 0 < j := of_decide_eq_true h
/-! ### heaps -/
theorem same_upd {H : Hp} {p : Addr} {o : HO} (h : H p = none) : Same H (upd H p o) := fun b x e => by
  rw [upd_ne (ne_of_none e h)]
  exact e
theorem sTup {K : PySem.W.Frag} {H H' : Hp} {a : Addr} {xs : List V} (e : Same H H') (h : SqT K H a xs) : SqT K H' a xs := by
  rcases h with (h | ⟨o, h⟩) | h
  · exact .inl (.inl (e _ _ h))
  · exact .inl (.inr ⟨o, e _ _ h⟩)
  · exact .inr h
/-- all that was tracked is as it was, but for what stands at o -/
def But (o : Addr) (H H' : Hp) : Prop := ∀ b u, b ≠ o → H b = some u → H' b = some u
theorem But.refl (o : Addr) (H : Hp) : But o H H := fun _ _ _ h => h
theorem But.trans {o : Addr} {H H1 H2 : Hp} (a : But o H H1) (b : But o H1 H2) : But o H H2 := fun c u n h => b c u n (a c u n h)
theorem But.of {o : Addr} {H H' : Hp} (a : Same H H') : But o H H' := fun c u _ h => a c u h
theorem But.set {o : Addr} {H : Hp} {u : HO} : But o H (upd H o u) := fun c u' n h => by rw [upd_ne n]; exact h

/-! ### xs.extend(t), t a tuple -/
theorem ext_tup (l : Addr) (items : Array Value) (n : Nat) (b : Addr) (ob : Obj) (items2 : Array Value) (n2 : Nat) (hs0 : ¬(!items.isEmpty && Builtin.List.listTooLong (items.size + items2.size)) = true) (hs1 : items.size ≤ sizeLine) (hs2 : items.size + items2.size ≤ sizeLine + 1) (hcl : ob.cls = .type "tuple") (hda : ob.data = .seq items2 n2) :
    Meets (Builtin.«list.extend» ⟨[.ref l, .ref b], []⟩) (fun _ R s => s.heap.get? l = some { cls := .type "list", dict := none, data := .seq items n, slots := #[] } ∧ s.heap.get? b = some ob ∧ R (.ok (.ret Value.none)) { s with heap := s.heap.update l (Obj.mapSeq fun x => x ++ items2), toks := s.toks }) := by
  obtain ⟨oc, od, oda, osl⟩ := ob
  cases hcl
  cases hda
  refine .of_wp fun prog w A R s h => ?_
  obtain ⟨hp, g, d, tk, os⟩ := s
  obtain ⟨hl, hb, h⟩ := h
  have f1 := AutoSeq1.idx_int; have f2 := AutoSeq1.sub_tuple_tuple; have f3 := AutoSeq1.sub_list_list; have f4 := AutoSeq1.sub_tuple_list; have f5 := AutoSeq1.sub_list_tuple
  have hz' : (items ++ items2).size ≤ sizeLine + 1 := by rw [Array.size_append]; exact hs2
  wp_walk using (wpAny_updateSeq hl rfl (hz := hs1) (_hz' := hz')), AutoSeq1.wpAny_loadPart' hl, AutoSeq1.wpAny_loadPart' hb
  exact ⟨_, rfl, h⟩
def rExtT (K : PySem.W.Frag) : V → List V → Hp → VK → Prop := fun x vs H Q => ∃ l b xs zs, x = .ref l ∧ vs = [.ref b] ∧ H l = some (.lst xs) ∧ SqT K H b zs ∧ xs.length + zs.length ≤ sizeLine ∧ Q .non (upd H l (.lst (xs ++ zs)))
theorem mt_extendT {X : Cx} : MtR X "list.extend" (rExtT X.K) := by
  intro pins s σ H x vs v us Q I rx rv h
  obtain ⟨l, b, xs, zs, rfl, rfl, hH, hB, hz, q⟩ := h
  cases rx
  obtain ⟨u, rfl, ru⟩ := rv.one
  cases ru
  obtain ⟨z, its, n, r, hl, e⟩ := I.lstM hH
  obtain ⟨its2, r2, ⟨ob, e2, hcl, n2, hda⟩, hl2⟩ := I.tuple hB
  have hl3 := r2.length
  have hsz : its.toArray.size + its2.toArray.size ≤ sizeLine := by rw [List.size_toArray, List.size_toArray]; omega
  have hlong : ¬ (!its.toArray.isEmpty && Builtin.List.listTooLong (its.toArray.size + its2.toArray.size)) = true := by
    rw [notLongL hsz, Bool.and_false]
    exact Bool.false_ne_true
  refine call_meets F.slot_list_extend ⟨_, e, rfl⟩ F.entry_list_extend (F.args_list_extend_2 _ _)
    (ext_tup l its.toArray n b ob its2.toArray n2 hlong (by rw [List.size_toArray]; omega) (by omega) hcl hda) ⟨e, e2, ?_⟩
  refine ⟨.non, _, I.lset (its' := its ++ its2) hH e (by simp) (r.append r2) ?_, rfl, q⟩
  rw [List.length_append]
  omega

/-! ### what a letter, a view holds -/
def deedNames : List Str := ["note", "kind", "mark", "send", "tell", "hear", "promise", "commit", "anew"]
theorem dn_len : deedNames.length = 9 := rfl
theorem dn_nodup : deedNames.Nodup := by decide +kernel
structure Dd where
  place : Nat
  nums : List Int
structure Ev where
  asleep : Bool
  shown : List Int
  after : List Int
  deed : Dd
  knows : List Int
structure Rc where
  dev : Int
  num : Int
  ev : Ev
structure Lt where
  s : Int
  r : Int
  k : Int
  n : Int
  recs : List Rc
def b2n (b : Bool) : Int := if b then 1 else 0
def numSeq (ns : List Int) : List Int := (ns.length : Int) :: ns
def numD (d : Dd) : List Int := (d.place : Int) :: (if d.place = 8 then numSeq d.nums else d.nums)
def numE (e : Ev) : List Int := [b2n e.asleep] ++ numSeq e.shown ++ numSeq e.after ++ numD e.deed ++ numSeq e.knows
def numR (r : Rc) : List Int := [r.dev, r.num] ++ numE r.ev
def numL (l : Lt) : List Int := [l.s, l.r, l.k, l.n, (l.recs.length : Int)] ++ l.recs.flatMap numR
def In18 (n : Int) : Prop := n.natAbs < 10 ^ 18
def Nt18 (n : Int) : Prop := In18 n ∧ 0 ≤ n
def arity (p : Nat) : Nat := [0, 2, 3, 2, 1, 2, 2, 1, 0].getD p 0
/-- which number of a deed may be below 0 -/
def mayNeg (p i : Nat) : Prop := (p = 2 ∧ i = 2) ∨ p = 7
structure Dd.Ok (d : Dd) : Prop where
  pl : d.place < 9
  len : d.nums.length ≤ 4
  ar : d.place ≠ 8 → d.nums.length = arity d.place
  sm : ∀ n ∈ d.nums, In18 n
  nt : ∀ i n, d.nums[i]? = some n → ¬ mayNeg d.place i → 0 ≤ n
structure Ev.Ok (e : Ev) : Prop where
  s1 : e.shown.length ≤ 4
  s2 : e.after.length ≤ 4
  s3 : e.knows.length ≤ 6
  m1 : ∀ n ∈ e.shown, In18 n
  m2 : ∀ n ∈ e.after, In18 n
  m3 : ∀ n ∈ e.knows, Nt18 n
  d : e.deed.Ok
structure Rc.Ok (r : Rc) : Prop where
  d : Nt18 r.dev
  n : Nt18 r.num
  e : r.ev.Ok
structure Lt.Ok (l : Lt) : Prop where
  s : Nt18 l.s
  r : Nt18 l.r
  k : Nt18 l.k
  n : Nt18 l.n
  len : l.recs.length ≤ 20
  rs : ∀ r ∈ l.recs, r.Ok
/-- the tuple of a list of ints -/
def TupI (K : PySem.W.Frag) (H : Hp) (a : Addr) (ns : List Int) : Prop := SqT K H a (ns.map V.int)
def DdAt (K : PySem.W.Frag) (H : Hp) (a : Addr) (d : Dd) : Prop :=
  ∃ z rest, deedNames[d.place]? = some z ∧ SqT K H a (.str z :: rest) ∧ ((d.place = 8 ∧ ∃ b, rest = [.ref b] ∧ TupI K H b d.nums) ∨ (d.place ≠ 8 ∧ rest = d.nums.map V.int))
def EvAt (K : PySem.W.Frag) (H : Hp) (a : Addr) (e : Ev) : Prop :=
  ∃ p q d r, SqT K H a [.bl e.asleep, .ref p, .ref q, .ref d, .ref r] ∧ TupI K H p e.shown ∧ TupI K H q e.after ∧ DdAt K H d e.deed ∧ TupI K H r e.knows
def RcAt (K : PySem.W.Frag) (H : Hp) (a : Addr) (r : Rc) : Prop := ∃ e, SqT K H a [.int r.dev, .int r.num, .ref e] ∧ EvAt K H e r.ev
/-- objects one beside the other -/
def Each {α : Type} (P : Addr → α → Prop) (as : List Addr) (xs : List α) : Prop := as.length = xs.length ∧ ∀ (i : Nat) (a : Addr) (x : α), as[i]? = some a → xs[i]? = some x → P a x
def LtAt (K : PySem.W.Frag) (H : Hp) (a : Addr) (l : Lt) : Prop :=
  ∃ b as, SqT K H a [.int l.s, .int l.r, .int l.k, .int l.n, .ref b] ∧ SqT K H b (as.map V.ref) ∧ Each (RcAt K H) as l.recs
section
variable {K : PySem.W.Frag} {H H' : Hp}
theorem TupI.keep {a ns} (e : Same H H') (h : TupI K H a ns) : TupI K H' a ns := sTup e h
theorem DdAt.keep {a d} (e : Same H H') (h : DdAt K H a d) : DdAt K H' a d := by
  obtain ⟨z, rest, h0, h1, h2⟩ := h
  refine ⟨z, rest, h0, sTup e h1, ?_⟩
  rcases h2 with ⟨h2, b, h3, h4⟩ | h2
  · exact .inl ⟨h2, b, h3, h4.keep e⟩
  · exact .inr h2
theorem EvAt.keep {a d} (e : Same H H') (h : EvAt K H a d) : EvAt K H' a d := by
  obtain ⟨p, q, d, r, h1, h2, h3, h4, h5⟩ := h
  exact ⟨p, q, d, r, sTup e h1, h2.keep e, h3.keep e, h4.keep e, h5.keep e⟩
theorem RcAt.keep {a d} (e : Same H H') (h : RcAt K H a d) : RcAt K H' a d := by
  obtain ⟨p, h1, h2⟩ := h
  exact ⟨p, sTup e h1, h2.keep e⟩
theorem Each.keep {α : Type} {P P' : Addr → α → Prop} {as xs} (h : Each P as xs) (f : ∀ a x, P a x → P' a x) : Each P' as xs := ⟨h.1, fun i a x h1 h2 => f a x (h.2 i a x h1 h2)⟩
theorem Each.nil {α : Type} {P : Addr → α → Prop} : Each P [] [] := ⟨rfl, fun i a x h => by simp at h⟩
theorem Each.snoc {α : Type} {P : Addr → α → Prop} {as xs} (h : Each P as xs) {a : Addr} {x : α} (p : P a x) : Each P (as ++ [a]) (xs ++ [x]) := by
  refine ⟨by simp [h.1], fun i b y h1 h2 => ?_⟩
  by_cases hi : i < as.length
  · rw [List.getElem?_append_left hi] at h1
    rw [List.getElem?_append_left (by rw [← h.1]; exact hi)] at h2
    exact h.2 i b y h1 h2
  · rw [List.getElem?_append_right (by omega)] at h1
    rw [List.getElem?_append_right (by rw [← h.1]; omega)] at h2
    rw [← h.1] at h2
    cases e : i - as.length with
    | zero =>
      rw [e] at h1 h2
      cases h1
      cases h2
      exact p
    | succ n =>
      rw [e] at h1
      simp at h1
theorem Each.get {α : Type} {P : Addr → α → Prop} {as xs} (h : Each P as xs) {i : Nat} {a : Addr} (ha : as[i]? = some a) : ∃ x, xs[i]? = some x ∧ P a x := by
  have hi : i < xs.length := by rw [← h.1]; exact (List.getElem?_eq_some_iff.mp ha).1
  exact ⟨xs[i], List.getElem?_eq_getElem hi, h.2 i a _ ha (List.getElem?_eq_getElem hi)⟩
theorem LtAt.keep {a d} (e : Same H H') (h : LtAt K H a d) : LtAt K H' a d := by
  obtain ⟨b, as, h1, h2, h3⟩ := h
  exact ⟨b, as, sTup e h1, sTup e h2, h3.keep fun _ _ q => q.keep e⟩
end
/-! ### sizes -/
theorem numD_len {d : Dd} (h : d.Ok) : (numD d).length ≤ 6 := by
  have := h.len
  unfold numD numSeq
  split <;> simp <;> omega
theorem numE_len {e : Ev} (h : e.Ok) : (numE e).length ≤ 24 := by
  have h1 := h.s1; have h2 := h.s2; have h3 := h.s3; have h4 := numD_len h.d
  unfold numE numSeq
  simp only [List.length_append, List.length_cons, List.length_nil]
  omega
theorem numR_len {r : Rc} (h : r.Ok) : (numR r).length ≤ 26 := by
  have h1 := numE_len h.e
  unfold numR
  simp only [List.length_append, List.length_cons, List.length_nil]
  omega
theorem flat_len {α : Type} {f : α → List Int} {m : Nat} : ∀ {xs : List α}, (∀ x ∈ xs, (f x).length ≤ m) → (xs.flatMap f).length ≤ xs.length * m
  | [], _ => by simp
  | x :: r, h => by
    have h1 := h x List.mem_cons_self
    have h2 := flat_len (xs := r) fun y hy => h y (List.mem_cons_of_mem _ hy)
    rw [List.flatMap_cons, List.length_append, List.length_cons, Nat.succ_mul]
    omega
theorem In18.zero : In18 0 := by unfold In18; decide
theorem In18.small {n : Nat} (h : n ≤ 1000) : In18 (n : Int) := by
  unfold In18
  rw [Int.natAbs_natCast]
  exact Nat.lt_of_le_of_lt h (by decide)
theorem In18.log {n : Int} (h : In18 n) : n.natAbs.log2 < 1920 := by
  unfold In18 at h
  by_cases h0 : n.natAbs = 0
  · rw [h0]
    decide
  · exact (Nat.log2_lt h0).mpr (Nat.lt_of_lt_of_le h (by decide +kernel))
theorem numD_in {d : Dd} (h : d.Ok) : ∀ n ∈ numD d, In18 n := by
  intro n hn
  have hp := h.pl
  have hl := h.len
  unfold numD at hn
  rcases List.mem_cons.mp hn with e | hn
  · rw [e]
    exact In18.small (by omega)
  · split at hn
    · unfold numSeq at hn
      rcases List.mem_cons.mp hn with e | hn
      · rw [e]
        exact In18.small (by omega)
      · exact h.sm n hn
    · exact h.sm n hn
theorem seq_in {ns : List Int} (hl : ns.length ≤ 1000) (h : ∀ n ∈ ns, In18 n) : ∀ n ∈ numSeq ns, In18 n := by
  intro n hn
  unfold numSeq at hn
  rcases List.mem_cons.mp hn with e | hn
  · rw [e]
    exact In18.small hl
  · exact h n hn
theorem numE_in {e : Ev} (h : e.Ok) : ∀ n ∈ numE e, In18 n := by
  intro n hn
  have h1 := h.s1; have h2 := h.s2; have h3 := h.s3
  unfold numE at hn
  rcases List.mem_append.mp hn with hn | hn
  · rcases List.mem_append.mp hn with hn | hn
    · rcases List.mem_append.mp hn with hn | hn
      · rcases List.mem_append.mp hn with hn | hn
        · rw [List.mem_singleton.mp hn]
          unfold b2n
          split
          · exact In18.small (n := 1) (by decide)
          · exact In18.zero
        · exact seq_in (by omega) h.m1 n hn
      · exact seq_in (by omega) h.m2 n hn
    · exact numD_in h.d n hn
  · exact seq_in (by omega) (fun n hn => (h.m3 n hn).1) n hn
theorem numR_in {r : Rc} (h : r.Ok) : ∀ n ∈ numR r, In18 n := by
  intro n hn
  unfold numR at hn
  rcases List.mem_append.mp hn with hn | hn
  · rcases List.mem_cons.mp hn with e | hn
    · rw [e]; exact h.d.1
    · rw [List.mem_singleton.mp hn]; exact h.n.1
  · exact numE_in h.e n hn
theorem numL_len {l : Lt} (h : l.Ok) : (numL l).length ≤ 600 := by
  have h1 := flat_len (f := numR) (m := 26) (xs := l.recs) fun r hr => numR_len (h.rs r hr)
  have h2 := h.len
  unfold numL
  simp only [List.length_append, List.length_cons, List.length_nil]
  omega
theorem numL_in {l : Lt} (h : l.Ok) : ∀ n ∈ numL l, In18 n := by
  intro n hn
  have hl := h.len
  unfold numL at hn
  rcases List.mem_append.mp hn with hn | hn
  · simp only [List.mem_cons, List.not_mem_nil, or_false] at hn
    rcases hn with e | e | e | e | e <;> rw [e]
    · exact h.s.1
    · exact h.r.1
    · exact h.k.1
    · exact h.n.1
    · exact In18.small (by omega)
  · obtain ⟨r, hr, hn⟩ := List.mem_flatMap.mp hn
    exact numR_in (h.rs r hr) n hn
/-! ### the text -/
def words (ns : List Int) : List Str := ns.map fun n => toString n
def textOf (head : Str) (ns : List Int) : Str := head ++ Str.ofString "\n" ++ Txt.join (Str.ofString " ") (words ns) ++ Str.ofString "\n"

theorem join_len (y : Str) : ∀ parts : List Str, (Str.join y parts).length ≤ (parts.map (·.length)).sum + parts.length * y.length
  | [] => Nat.zero_le _
  | [x] => by
    show x.length ≤ x.length + 0 + _
    omega
  | x :: z :: r => by
    have h := join_len y (z :: r)
    show (x ++ y ++ Str.join y (z :: r)).length ≤ _
    rw [Str.length_append, Str.length_append]
    rw [List.map_cons, List.sum_cons, List.length_cons, Nat.succ_mul]
    omega
theorem word_len {n : Int} (h : In18 n) : (Str.ofString (toString n)).length ≤ 19 := by
  unfold In18 at h
  have e := int_text_length_le10 (k := 18) (by decide) h
  rw [PySem.ofString_length]
  exact e
theorem words_sum {ns : List Int} (h : ∀ n ∈ ns, In18 n) : ((words ns).map (·.length)).sum ≤ ns.length * 19 := by
  induction ns with
  | nil => exact Nat.zero_le _
  | cons a r ih =>
    have h1 := word_len (h a List.mem_cons_self)
    have h2 := ih fun n hn => h n (List.mem_cons_of_mem _ hn)
    show (Str.ofString (toString a)).length + ((words r).map (·.length)).sum ≤ _
    rw [List.length_cons, Nat.succ_mul]
    omega
theorem words_len (ns : List Int) : (words ns).length = ns.length := List.length_map _
theorem blank_len : (Str.ofString " ").length = 1 := by decide +kernel
theorem nl_len : (Str.ofString "\n").length = 1 := by decide +kernel
theorem joined_len {ns : List Int} (h : ∀ n ∈ ns, In18 n) : (Txt.join (Str.ofString " ") (words ns)).length ≤ ns.length * 20 := by
  have h1 := join_len (Str.ofString " ") (words ns)
  have h2 := words_sum h
  rw [← TL.join_eq, words_len, blank_len] at h1
  omega
theorem line2 : (20000 : Nat) ≤ sizeLine := by decide
theorem join_fit {ns : List Int} (h : ∀ n ∈ ns, In18 n) (hl : ns.length ≤ 1000) : ((words ns).map (·.length)).sum + (words ns).length * (Str.ofString " ").length ≤ 16777216 := by
  have h2 := words_sum h
  rw [words_len, blank_len]
  omega
theorem sizes {n : Nat} (h : n ≤ 100000) : n ≤ sizeLine := Nat.le_trans h (by decide)
theorem sizes' {n : Nat} (h : n ≤ 100000) : n < sizeLine := Nat.lt_of_le_of_lt h (by decide)
theorem words_take_succ {ns : List Int} {i : Nat} (h : i < ns.length) : words (ns.take (i + 1)) = words (ns.take i) ++ [(toString ns[i] : Str)] := by
  unfold words
  rw [List.take_add_one, List.getElem?_eq_getElem h, List.map_append]
  rfl
theorem int_get {ns : List Int} {i : Nat} {x : V} (h : (ns.map V.int)[i]? = some x) : ∃ hi : i < ns.length, x = V.int ns[i] := by
  have hi := (List.getElem?_eq_some_iff.mp h).1
  rw [List.length_map] at hi
  refine ⟨hi, ?_⟩
  rw [List.getElem?_map, List.getElem?_eq_getElem hi] at h
  exact (Option.some.inj h).symm
theorem ref_get {as : List Addr} {i : Nat} {x : V} (h : (as.map V.ref)[i]? = some x) : ∃ hi : i < as.length, x = V.ref as[i] := by
  have hi := (List.getElem?_eq_some_iff.mp h).1
  rw [List.length_map] at hi
  refine ⟨hi, ?_⟩
  rw [List.getElem?_map, List.getElem?_eq_getElem hi] at h
  exact (Option.some.inj h).symm
/-! ### what is no list stands while the list at o changes -/
theorem butTup {K : PySem.W.Frag} {H H' : Hp} {o a : Addr} {xs ys : List V} (e : But o H H') (ho : H o = some (.lst xs)) (h : SqT K H a ys) : SqT K H' a ys := by
  rcases h with (h | ⟨ob, h⟩) | h
  · exact .inl (.inl (e _ _ (ne_of h ho (by intro z; cases z)) h))
  · exact .inl (.inr ⟨ob, e _ _ (ne_of h ho (by intro z; cases z)) h⟩)
  · exact .inr h
section
variable {K : PySem.W.Frag} {H H' : Hp} {o : Addr} {xs : List V}
theorem TupI.but {a ns} (e : But o H H') (ho : H o = some (.lst xs)) (h : TupI K H a ns) : TupI K H' a ns := butTup e ho h
theorem DdAt.but {a d} (e : But o H H') (ho : H o = some (.lst xs)) (h : DdAt K H a d) : DdAt K H' a d := by
  obtain ⟨z, rest, h0, h1, h2⟩ := h
  refine ⟨z, rest, h0, butTup e ho h1, ?_⟩
  rcases h2 with ⟨h2, b, h3, h4⟩ | h2
  · exact .inl ⟨h2, b, h3, h4.but e ho⟩
  · exact .inr h2
theorem EvAt.but {a d} (e : But o H H') (ho : H o = some (.lst xs)) (h : EvAt K H a d) : EvAt K H' a d := by
  obtain ⟨p, q, d, r, h1, h2, h3, h4, h5⟩ := h
  exact ⟨p, q, d, r, butTup e ho h1, h2.but e ho, h3.but e ho, h4.but e ho, h5.but e ho⟩
end
/-! ### the names of deeds -/
theorem dn_first {j m : Nat} {z : Str} (h : deedNames[j]? = some z) (hm : m < j) : deedNames[m]? ≠ some z := fun e => by
  have := nd_ix dn_nodup e h
  omega
theorem dn_anew {j : Nat} {z : Str} (h : deedNames[j]? = some z) : z = "anew" ↔ j = 8 := by
  refine ⟨fun e => nd_ix dn_nodup (x := z) h (by rw [e]; rfl), fun e => ?_⟩
  subst e
  exact (Option.some.inj h).symm
theorem dn_note {j : Nat} {z : Str} (h : deedNames[j]? = some z) : z = "note" ↔ j = 0 := by
  refine ⟨fun e => nd_ix dn_nodup (x := z) h (by rw [e]; rfl), fun e => ?_⟩
  subst e
  exact (Option.some.inj h).symm
/-- a def of the text, as it stands behind the top -/
structure Df (K : PySem.W.Frag) (mg : Str → Option Value) (x : Str) (st : Stmt) (ps : List Str) (f : Addr) (fd : FuncData) : Prop where
  F : Fun K x x st f fd
  b : Binds K fd ps []
  m : mg x = some (.ref f)
/-- the built-ins that the text calls are still its own -/
structure Txt (K : PySem.W.Frag) (mg : Str → Option Value) : Prop where
  len : mg "len" = none
  str : mg "str" = none
  int : mg "int" = none
  range : mg "range" = none
  tuple : mg "tuple" = none
  list : mg "list" = none
  isinstance : mg "isinstance" = none
  bool : mg "bool" = none
  all : mg "all" = none
  min : mg "min" = none
  sum : mg "sum" = none
  enumerate : mg "enumerate" = none
/-- the tuple of the deeds' names stands at aD -/
structure Deeds (K : PySem.W.Frag) (mg : Str → Option Value) (aD : Addr) : Prop where
  m : mg "DEEDS" = some (.ref aD)
  o : ∃ ob : Obj, K.lookup aD = some ob ∧ ob.cls = .type "tuple" ∧ ob.dict = none
  sq : ∀ H, SqT K H aD (deedNames.map V.str)

theorem vint_eq {a b : Int} (c : decide (V.int a = V.int b) = true) : a = b := by injection (of_decide_eq_true c)
theorem vint_ne {a b : Int} (c : ¬ decide (V.int a = V.int b) = true) : a ≠ b := fun e => c (decide_eq_true (by rw [e]))
theorem one_of {ns : List Int} (h : ns.length = 1) : ∃ x, ns = [x] := by
  match ns, h with
  | [x], _ => exact ⟨x, rfl⟩
theorem two_of {ns : List Int} (h : ns.length = 2) : ∃ x y, ns = [x, y] := by
  match ns, h with
  | [x, y], _ => exact ⟨x, y, rfl⟩
theorem four_of {ns : List Int} (h : ns.length = 4) : ∃ x y z u, ns = [x, y, z, u] := by
  match ns, h with
  | [x, y, z, u], _ => exact ⟨x, y, z, u, rfl⟩
theorem nt_one {a n : Int} {i : Nat} (h : [a][i]? = some n) (ha : 0 ≤ a) : 0 ≤ n := by
  match i, h with
  | 0, h => cases h; exact ha
theorem nt_two {a b n : Int} {i : Nat} (h : [a, b][i]? = some n) (ha : 0 ≤ a) (hb : 0 ≤ b) : 0 ≤ n := by
  match i, h with
  | 0, h => cases h; exact ha
  | 1, h => cases h; exact hb
theorem nt_three {a b c n : Int} {i : Nat} (h : [a, b, c][i]? = some n) (h2 : ¬ mayNeg 2 i) (ha : 0 ≤ a) (hb : 0 ≤ b) : 0 ≤ n := by
  match i, h with
  | 0, h => cases h; exact ha
  | 1, h => cases h; exact hb
  | 2, h => exact absurd (Or.inl ⟨rfl, rfl⟩) h2
end Vs

namespace Vs
open PySem PySem.Spec PyProof.Rows L2
section
variable {K : PySem.W.Frag} {H H' : Hp}
theorem tyT {a : Addr} {xs : List V} (h : SqT K H a xs) : TyX K H (.ref a) (.type "tuple") := by
  rcases h with (h | ⟨o, h⟩) | ⟨o, its, n, h, hc, _⟩
  · exact .base (.tup h)
  · exact .fTuple h
  · exact .kTuple h hc
theorem tyL {a : Addr} {xs : List V} (h : SqL K H a xs) : TyX K H (.ref a) (.type "list") := by
  rcases h with (h | ⟨o, h⟩) | ⟨o, its, n, h, hc, _⟩
  · exact .base (.lst h)
  · exact .base (.frz h)
  · exact .kList h hc
/-- both denote the same, down to depth n -/
def Sim (K : PySem.W.Frag) (H : Hp) : Nat → V → V → Prop
  | 0, _, _ => False
  | n + 1, x, y => (∃ b, x = .bl b ∧ y = .bl b) ∨ (∃ i, x = .int i ∧ y = .int i) ∨ (∃ z, x = .str z ∧ y = .str z) ∨
    (∃ a b xs ys, x = .ref a ∧ y = .ref b ∧ ((SqT K H a xs ∧ SqT K H b ys) ∨ (SqL K H a xs ∧ SqL K H b ys)) ∧ xs.length = ys.length ∧ xs.length ≤ 1000 ∧ ∀ (i : Nat) u v, xs[i]? = some u → ys[i]? = some v → Sim K H n u v)
theorem Sim.int {n : Nat} {i : Int} : Sim K H (n + 1) (.int i) (.int i) := .inr (.inl ⟨i, rfl, rfl⟩)
theorem Sim.str {n : Nat} {z : Str} : Sim K H (n + 1) (.str z) (.str z) := .inr (.inr (.inl ⟨z, rfl, rfl⟩))
theorem Sim.bl {n : Nat} {b : Bool} : Sim K H (n + 1) (.bl b) (.bl b) := .inl ⟨b, rfl, rfl⟩
theorem Sim.tup {n : Nat} {a b : Addr} {xs ys : List V} (h1 : SqT K H a xs) (h2 : SqT K H b ys) (hl : xs.length = ys.length) (hs : xs.length ≤ 1000) (h : ∀ (i : Nat) u v, xs[i]? = some u → ys[i]? = some v → Sim K H n u v) : Sim K H (n + 1) (.ref a) (.ref b) :=
  .inr (.inr (.inr ⟨a, b, xs, ys, rfl, rfl, .inl ⟨h1, h2⟩, hl, hs, h⟩))
theorem Sim.lst {n : Nat} {a b : Addr} {xs ys : List V} (h1 : SqL K H a xs) (h2 : SqL K H b ys) (hl : xs.length = ys.length) (hs : xs.length ≤ 1000) (h : ∀ (i : Nat) u v, xs[i]? = some u → ys[i]? = some v → Sim K H n u v) : Sim K H (n + 1) (.ref a) (.ref b) :=
  .inr (.inr (.inr ⟨a, b, xs, ys, rfl, rfl, .inr ⟨h1, h2⟩, hl, hs, h⟩))
theorem all_nil {R : V → V → Prop} : ∀ (i : Nat) u v, ([] : List V)[i]? = some u → ([] : List V)[i]? = some v → R u v := fun i u v h => by simp at h
theorem all_cons {R : V → V → Prop} {x y : V} {xs ys : List V} (h : R x y) (t : ∀ (i : Nat) u v, xs[i]? = some u → ys[i]? = some v → R u v) : ∀ (i : Nat) u v, (x :: xs)[i]? = some u → (y :: ys)[i]? = some v → R u v
  | 0, _, _, h1, h2 => by cases h1; cases h2; exact h
  | i + 1, u, v, h1, h2 => t i u v h1 h2
theorem all_ints {n : Nat} {ns : List Int} : ∀ (i : Nat) u v, (ns.map V.int)[i]? = some u → (ns.map V.int)[i]? = some v → Sim K H (n + 1) u v := fun i u v h1 h2 => by
  rw [h1] at h2
  cases h2
  obtain ⟨hi, rfl⟩ := int_get h1
  exact .int
theorem simI {n : Nat} {a b : Addr} {ns : List Int} (h1 : TupI K H a ns) (h2 : TupI K H b ns) (hs : ns.length ≤ 1000) : Sim K H (n + 2) (.ref a) (.ref b) := .tup h1 h2 rfl (by rw [List.length_map]; exact hs) all_ints
theorem simD {n : Nat} {a b : Addr} {d : Dd} (h1 : DdAt K H a d) (h2 : DdAt K H b d) (hk : d.Ok) : Sim K H (n + 3) (.ref a) (.ref b) := by
  have hl := hk.len
  obtain ⟨z, r, e1, t1, q1⟩ := h1
  obtain ⟨z', r', e2, t2, q2⟩ := h2
  rw [e1] at e2
  cases e2
  rcases q1 with ⟨p8, c, rfl, h1⟩ | ⟨n8, rfl⟩
  · rcases q2 with ⟨_, c', rfl, h2⟩ | ⟨n8, _⟩
    · exact .tup t1 t2 rfl (by show 2 ≤ 1000; decide) (all_cons .str (all_cons (simI h1 h2 (by omega)) all_nil))
    · exact absurd p8 n8
  · rcases q2 with ⟨p8, _⟩ | ⟨_, rfl⟩
    · exact absurd p8 n8
    · exact .tup t1 t2 rfl (by rw [List.length_cons, List.length_map]; omega) (all_cons .str all_ints)
theorem simE {n : Nat} {a b : Addr} {e : Ev} (h1 : EvAt K H a e) (h2 : EvAt K H b e) (hk : e.Ok) : Sim K H (n + 4) (.ref a) (.ref b) := by
  have k1 := hk.s1; have k2 := hk.s2; have k3 := hk.s3
  obtain ⟨p, q, d, r, t, f1, f2, f3, f4⟩ := h1
  obtain ⟨p', q', d', r', t', g1, g2, g3, g4⟩ := h2
  exact .tup t t' rfl (by show 5 ≤ 1000; decide) (all_cons .bl (all_cons (simI f1 g1 (by omega)) (all_cons (simI f2 g2 (by omega)) (all_cons (simD f3 g3 hk.d) (all_cons (simI f4 g4 (by omega)) all_nil)))))
theorem simR {n : Nat} {a b : Addr} {r : Rc} (h1 : RcAt K H a r) (h2 : RcAt K H b r) (hk : r.Ok) : Sim K H (n + 5) (.ref a) (.ref b) := by
  obtain ⟨e, t, f⟩ := h1
  obtain ⟨e', t', g⟩ := h2
  exact .tup t t' rfl (by show 3 ≤ 1000; decide) (all_cons .int (all_cons .int (all_cons (simE f g hk.e) all_nil)))
theorem simEach {α : Type} {P : Addr → α → Prop} {n : Nat} {as bs : List Addr} {xs : List α} (h1 : Each P as xs) (h2 : Each P bs xs) (h : ∀ a b x, x ∈ xs → P a x → P b x → Sim K H n (.ref a) (.ref b)) :
    ∀ (i : Nat) u v, (as.map V.ref)[i]? = some u → (bs.map V.ref)[i]? = some v → Sim K H n u v := fun i u v e1 e2 => by
  obtain ⟨i1, rfl⟩ := ref_get e1
  obtain ⟨i2, rfl⟩ := ref_get e2
  have ix : i < xs.length := by rw [← h1.1]; exact i1
  exact h _ _ xs[i] (List.getElem_mem ix) (h1.2 i _ _ (List.getElem?_eq_getElem i1) (List.getElem?_eq_getElem ix)) (h2.2 i _ _ (List.getElem?_eq_getElem i2) (List.getElem?_eq_getElem ix))
theorem simL {n : Nat} {a b : Addr} {l : Lt} (h1 : LtAt K H a l) (h2 : LtAt K H b l) (hk : l.Ok) : Sim K H (n + 7) (.ref a) (.ref b) := by
  have hl := hk.len
  obtain ⟨p, as, t, f, g⟩ := h1
  obtain ⟨p', as', t', f', g'⟩ := h2
  refine .tup t t' rfl (by show 5 ≤ 1000; decide) (all_cons .int (all_cons .int (all_cons .int (all_cons .int (all_cons ?_ all_nil)))))
  exact .tup f f' (by rw [List.length_map, List.length_map, g.1, g'.1]) (by rw [List.length_map, g.1]; omega) (simEach g g' fun a b x hx u v => simR u v (hk.rs x hx))
/-! ### what some calls ask, without the frame -/
abbrev rListOf (K : PySem.W.Frag) : List V → Hp → VK → Prop := fun xs H Q => ∃ p ys, xs = [V.ref p] ∧ (SqL K H p ys ∨ SqT K H p ys) ∧ ∀ l, H l = none → Q (.ref l) (upd H l (.lst ys))
abbrev rTupleOf (K : PySem.W.Frag) : List V → Hp → VK → Prop := fun xs H Q => ∃ p ys, xs = [V.ref p] ∧ ((SqL K H p ys ∧ ∀ l, H l = none → Q (.ref l) (upd H l (.tup ys))) ∨ (SqT K H p ys ∧ Q (.ref p) H))
abbrev rLenOf (K : PySem.W.Frag) : List V → Hp → VK → Prop := fun xs H Q => ∃ p ys, xs = [V.ref p] ∧ (SqL K H p ys ∨ SqT K H p ys) ∧ Q (.int ys.length) H
/-! ### views -/
def RowAt (K : PySem.W.Frag) (H : Hp) (a : Addr) (es : List Ev) : Prop := ∃ as, H a = some (.lst (as.map V.ref)) ∧ Each (EvAt K H) as es
def VwAt (K : PySem.W.Frag) (H : Hp) (v : Addr) (vw : List (List Ev)) : Prop := ∃ rows, H v = some (.lst (rows.map V.ref)) ∧ Each (RowAt K H) rows vw
theorem RowAt.keep {a es} (e : Same H H') (h : RowAt K H a es) : RowAt K H' a es := by
  obtain ⟨as, h1, h2⟩ := h
  exact ⟨as, e _ _ h1, h2.keep fun _ _ z => z.keep e⟩
theorem VwAt.keep {v vw} (e : Same H H') (h : VwAt K H v vw) : VwAt K H' v vw := by
  obtain ⟨as, h1, h2⟩ := h
  exact ⟨as, e _ _ h1, h2.keep fun _ _ z => z.keep e⟩
structure VwOk (vw : List (List Ev)) : Prop where
  len : vw.length ≤ 6
  sum : (vw.map List.length).sum ≤ 40
  ok : ∀ es ∈ vw, ∀ e ∈ es, e.Ok
def numEs (es : List Ev) : List Int := (es.length : Int) :: es.flatMap numE
def numV (vw : List (List Ev)) : List Int := (vw.length : Int) :: vw.flatMap numEs
theorem len_le_sum {vw : List (List Ev)} {es : List Ev} (h : es ∈ vw) : es.length ≤ (vw.map List.length).sum := by
  induction vw with
  | nil => simp at h
  | cons x r ih =>
    rw [List.map_cons, List.sum_cons]
    rcases List.mem_cons.mp h with e | h
    · rw [e]; omega
    · have := ih h; omega
theorem simRow {n : Nat} {a b : Addr} {es : List Ev} (h1 : RowAt K H a es) (h2 : RowAt K H b es) (hl : es.length ≤ 100) (hk : ∀ e ∈ es, e.Ok) : Sim K H (n + 5) (.ref a) (.ref b) := by
  obtain ⟨as, f, g⟩ := h1
  obtain ⟨as', f', g'⟩ := h2
  exact .lst (SqL.of f) (SqL.of f') (by rw [List.length_map, List.length_map, g.1, g'.1]) (by rw [List.length_map, g.1]; omega) (simEach g g' fun a b x hx u v => simE u v (hk x hx))
theorem simV {n : Nat} {a b : Addr} {vw : List (List Ev)} (h1 : VwAt K H a vw) (h2 : VwAt K H b vw) (hk : VwOk vw) : Sim K H (n + 6) (.ref a) (.ref b) := by
  have hl := hk.len
  have hs := hk.sum
  obtain ⟨as, f, g⟩ := h1
  obtain ⟨as', f', g'⟩ := h2
  exact .lst (SqL.of f) (SqL.of f') (by rw [List.length_map, List.length_map, g.1, g'.1]) (by rw [List.length_map, g.1]; omega) (simEach g g' fun a b x hx u v => simRow u v (by have := len_le_sum hx; omega) (hk.ok x hx))
end
theorem numV_len_le {vw : List (List Ev)} (h : ∀ es ∈ vw, ∀ e ∈ es, e.Ok) : (vw.flatMap numEs).length ≤ vw.length + (vw.map List.length).sum * 24 := by
  induction vw with
  | nil => exact Nat.zero_le _
  | cons x r ih =>
    have h1 := ih fun es hes => h es (List.mem_cons_of_mem _ hes)
    have h2 := flat_len (f := numE) (m := 24) (xs := x) fun e he => numE_len (h x List.mem_cons_self e he)
    rw [List.flatMap_cons, List.length_append, List.map_cons, List.sum_cons, List.length_cons]
    show ((x.length : Int) :: x.flatMap numE).length + _ ≤ _
    rw [List.length_cons]
    omega
theorem numV_len {vw : List (List Ev)} (h : VwOk vw) : (numV vw).length ≤ 967 := by
  have h1 := numV_len_le h.ok
  have h2 := h.len
  have h3 := h.sum
  unfold numV
  rw [List.length_cons]
  omega
theorem numEs_in {es : List Ev} (hl : es.length ≤ 100) (h : ∀ e ∈ es, e.Ok) : ∀ n ∈ numEs es, In18 n := by
  intro n hn
  unfold numEs at hn
  rcases List.mem_cons.mp hn with e | hn
  · rw [e]; exact In18.small (by omega)
  · obtain ⟨e, he, hn⟩ := List.mem_flatMap.mp hn
    exact numE_in (h e he) n hn
theorem numV_in {vw : List (List Ev)} (h : VwOk vw) : ∀ n ∈ numV vw, In18 n := by
  intro n hn
  have h2 := h.len
  have h3 := h.sum
  unfold numV at hn
  rcases List.mem_cons.mp hn with e | hn
  · rw [e]; exact In18.small (by omega)
  · obtain ⟨es, he, hn⟩ := List.mem_flatMap.mp hn
    exact numEs_in (by have := len_le_sum he; omega) (h.ok es he) n hn
theorem flat_take_le {α : Type} {f : α → List Int} {xs : List α} (i : Nat) : ((xs.take i).flatMap f).length ≤ (xs.flatMap f).length := by
  rw [show xs.flatMap f = (xs.take i).flatMap f ++ (xs.drop i).flatMap f by rw [← List.flatMap_append, List.take_append_drop], List.length_append]
  omega
theorem flat_take {α : Type} {f : α → List Int} {xs : List α} {i : Nat} {x : α} (h : xs[i]? = some x) : (xs.take (i + 1)).flatMap f = (xs.take i).flatMap f ++ f x := by
  rw [List.take_add_one, h, List.flatMap_append]
  show _ ++ (f x ++ []) = _
  rw [List.append_nil]
theorem flat_take_len {α : Type} {f : α → List Int} {m : Nat} {xs : List α} (h : ∀ x ∈ xs, (f x).length ≤ m) (i : Nat) : ((xs.take i).flatMap f).length ≤ i * m := by
  have h1 := flat_len (f := f) (m := m) (xs := xs.take i) fun x hx => h x (List.mem_of_mem_take hx)
  have h2 : (xs.take i).length ≤ i := by rw [List.length_take]; omega
  exact Nat.le_trans h1 (Nat.mul_le_mul_right m h2)
theorem sum_grow {vw : List (List Ev)} {j : Nat} {es : List Ev} {e : Ev} (h : vw[j]? = some es) : ((vw.set j (es ++ [e])).map List.length).sum = (vw.map List.length).sum + 1 := by
  induction vw generalizing j with
  | nil => simp at h
  | cons x r ih =>
    cases j with
    | zero =>
      cases h
      show (es ++ [e]).length + (r.map List.length).sum = es.length + (r.map List.length).sum + 1
      rw [List.length_append, List.length_singleton]
      omega
    | succ j =>
      show x.length + ((r.set j (es ++ [e])).map List.length).sum = x.length + (r.map List.length).sum + 1
      rw [ih h]
      omega
theorem cut1 (xs : List V) : cutV xs (some 1) none = xs.drop 1 := by
  unfold cutV
  rw [show HT.sIx xs.length 0 (some 1) = min 1 xs.length from HT.sIx_nat xs.length 0 1, HT.sIx_none]
  cases xs with
  | nil => rfl
  | cons x r =>
    rw [show min 1 (x :: r).length = 1 by rw [List.length_cons]; omega]
    show (List.take ((x :: r).length - 1) r) = r
    rw [List.length_cons, Nat.add_sub_cancel]
    exact List.take_length
def headL (l : Lt) : List Int := [l.s, l.r, l.k, l.n, (l.recs.length : Int)]
end Vs

namespace Vs
open PySem PySem.Spec PyProof.Rows L2
/-! ### the words of a text -/
abbrev wd (n : Int) : Str := Str.ofString (toString n)
theorem tl_pos {n : Int} (h : 0 ≤ n) : TL.tl (wd n) = TL.numL n.natAbs := by
  have e : n = ((n.natAbs : Nat) : Int) := by omega
  unfold wd
  rw [e, TL.tl_num]
  rfl
theorem tl_neg {n : Int} (h : n < 0) : TL.tl (wd n) = 45 :: TL.numL n.natAbs := by
  have e : (0 : Int) - n = ((n.natAbs : Nat) : Int) := by omega
  unfold wd
  rw [PyProof.Rows.toString_neg h, e]
  have q := TL.tl_num n.natAbs
  rw [TL.tl_ofString] at q ⊢
  rw [String.toList_append, List.map_append, q]
  rfl
theorem In18.numL {n : Int} (h : In18 n) : (TL.numL n.natAbs).length ≤ 18 := TL.numL_len (by decide) h
theorem wd_free {n : Int} {s : Nat} (h : s < 48 ∨ 57 < s) (h2 : s ≠ 45) : s ∉ TL.tl (wd n) := by
  by_cases h0 : 0 ≤ n
  · rw [tl_pos h0]
    exact TL.numL_free h
  · rw [tl_neg (by omega)]
    intro hm
    rcases List.mem_cons.mp hm with e | hm
    · exact h2 e
    · exact TL.numL_free h hm
theorem wd_int {n : Int} (h : In18 n) : intText? (wd n) = some n := by
  have hl := h.numL
  by_cases h0 : 0 ≤ n
  · have e := TL.int_num (n := n.natAbs) (by omega)
    have e2 : ((n.natAbs : Nat) : Int) = n := by omega
    rw [e2] at e
    exact e
  · have t := tl_neg (n := n) (by omega)
    have e := intText_neg (x := wd n) (cs := TL.numL n.natAbs) t (TL.numL_digits _) (TL.numL_ne _) (by rw [TL.len_tl, t, List.length_cons]; omega)
    rw [TL.numL_val] at e
    rw [e]
    congr 1
    omega
/-- the digits of the word -/
def dg (n : Int) : Str := ⟨(TL.numL n.natAbs).toArray⟩
theorem dash_tl : TL.tl (Str.ofString "-") = [45] := by decide +kernel
theorem beqD (a b : List Nat) : (a == b) = decide (a = b) := by
  by_cases h : a = b
  · rw [h, decide_eq_true rfl, beq_self_eq_true]
  · rw [decide_eq_false h, beq_false_of_ne h]
theorem rmdash (x : Str) : TL.tl (Txt.removeprefix x (Str.ofString "-")) = if (TL.tl x).take 1 = [45] then (TL.tl x).drop 1 else TL.tl x := by
  have hl : (Str.ofString "-").length = 1 := by decide +kernel
  unfold Txt.removeprefix
  have hs : Builtin.Str.subAt x (Str.ofString "-") 0 = decide ((TL.tl x).take 1 = [45]) := by
    rw [StrLaws.subAt_eq, hl, show (Str.ofString "-").cps.toList = [45] from dash_tl, List.drop_zero]
    exact beqD _ _
  by_cases h : (TL.tl x).take 1 = [45]
  · rw [hs, decide_eq_true h, if_pos rfl, if_pos h, hl]
    have h1 : 1 ≤ x.length := by
      rw [TL.len_tl]
      cases e : TL.tl x with
      | nil => rw [e] at h; cases h
      | cons a r => rw [List.length_cons]; omega
    unfold Txt.affix
    show TL.tl (if (x.length - 1 == x.length) = true then x else _) = _
    rw [if_neg (by rw [beq_iff_eq]; omega)]
    exact TL.tl_strSub_end x 1
  · rw [hs, decide_eq_false h, if_neg Bool.false_ne_true, if_neg h]
    rfl
theorem zero_tl : TL.tl (Str.ofString "0") = [48] := by decide +kernel
theorem starts0 (x : Str) : Txt.startswith x (Str.ofString "0") = decide ((TL.tl x).take 1 = [48]) := by
  have hl : (Str.ofString "0").length = 1 := by decide +kernel
  unfold Txt.startswith
  rw [StrLaws.subAt_eq, hl, show (Str.ofString "0").cps.toList = [48] from zero_tl, List.drop_zero]
  have e : ((TL.tl x).take 1 == [48]) = decide ((TL.tl x).take 1 = [48]) := beqD _ _
  rw [show List.take 1 x.cps.toList = (TL.tl x).take 1 from rfl, e]
  by_cases h : (TL.tl x).take 1 = [48]
  · have h1 : 1 ≤ x.length := by
      rw [TL.len_tl]
      cases e : TL.tl x with
      | nil => rw [e] at h; cases h
      | cons a r => rw [List.length_cons]; omega
    rw [decide_eq_true h, decide_eq_true (by omega : 0 + 1 ≤ x.length)]
    rfl
  · rw [decide_eq_false h, Bool.and_false]
theorem digit_ascii : ∀ c : Nat, c < 128 → Unicode.isDigit c = (decide (48 ≤ c) && decide (c ≤ 57)) := by decide +kernel
theorem numL_lead {n : Nat} (h : 0 < n) : (TL.numL n).take 1 ≠ [48] := by
  induction n using Nat.strongRecOn with
  | _ n ih =>
    by_cases h1 : n < 10
    · rw [TL.numL_lt h1]
      intro e
      have := List.cons.inj e
      omega
    · rw [TL.numL_step (by omega)]
      have h2 := ih (n / 10) (by omega) (by omega)
      have h3 := TL.numL_ne (n / 10)
      rw [List.take_append_of_le_length (by cases e : TL.numL (n / 10) with | nil => exact absurd e h3 | cons a r => rw [List.length_cons]; omega)]
      exact h2
/-- what is_integer tells of a word -/
def isIntW (z : Str) (m : Int) : Bool :=
  if (!(Txt.isascii (Txt.removeprefix z (Str.ofString "-")) && Txt.isdigit (Txt.removeprefix z (Str.ofString "-"))) || decide (((Txt.removeprefix z (Str.ofString "-")).length : Int) > m)) = true then false
  else (decide (z = Str.ofString "0") || !Txt.startswith (Txt.removeprefix z (Str.ofString "-")) (Str.ofString "0"))
theorem ascii_of {x : Str} (h : NumText.AllDigits (TL.tl x)) (hn : TL.tl x ≠ []) : Txt.isascii x = true ∧ Txt.isdigit x = true := by
  have e1 : x.cps.all (fun c => decide (c < 128)) = (TL.tl x).all (fun c => decide (c < 128)) := (Array.all_toList ..).symm
  have e2 : x.cps.all Unicode.isDigit = (TL.tl x).all Unicode.isDigit := (Array.all_toList ..).symm
  refine ⟨?_, ?_⟩
  · show x.cps.all (fun c => decide (c < 128)) = true
    rw [e1, List.all_eq_true]
    intro c hc
    have := h c hc
    exact decide_eq_true (by omega)
  · unfold Txt.isdigit
    rw [e2, Bool.and_eq_true]
    refine ⟨decide_eq_true (by rw [TL.len_tl]; exact List.length_pos_iff.mpr hn), ?_⟩
    rw [List.all_eq_true]
    intro c hc
    have h1 := h c hc
    rw [digit_ascii c (by omega), decide_eq_true h1.1, decide_eq_true h1.2]
    rfl
theorem wd_digits {n : Int} : TL.tl (Txt.removeprefix (wd n) (Str.ofString "-")) = TL.numL n.natAbs := by
  rw [rmdash]
  by_cases h0 : 0 ≤ n
  · rw [tl_pos h0, if_neg]
    intro e
    have h1 : 45 ∈ TL.numL n.natAbs := List.mem_of_mem_take (by rw [e]; exact List.mem_singleton_self 45)
    exact TL.numL_free (by omega) h1
  · rw [tl_neg (by omega), if_pos (by rfl)]
    rfl
theorem wd_zero : wd 0 = Str.ofString "0" := by decide +kernel
theorem wd_isInt {n m : Int} (h : In18 n) (hm : 18 ≤ m) : isIntW (wd n) m = true := by
  have hd := wd_digits (n := n)
  have hl := h.numL
  have ha := ascii_of (x := Txt.removeprefix (wd n) (Str.ofString "-")) (by rw [hd]; exact TL.numL_digits _) (by rw [hd]; exact TL.numL_ne _)
  unfold isIntW
  rw [ha.1, ha.2, decide_eq_false (by rw [TL.len_tl, hd]; omega)]
  show (decide (wd n = Str.ofString "0") || _) = true
  by_cases h0 : n = 0
  · rw [h0, decide_eq_true wd_zero]
    rfl
  · rw [starts0, hd, decide_eq_false (numL_lead (by omega))]
    exact Bool.or_true _
theorem wd_len {n : Int} (h : In18 n) : (wd n).length ≤ 19 := word_len h
/-! ### the lines and words of a text -/
theorem nl_tl : TL.tl (Str.ofString "\n") = [10] := by decide +kernel
theorem blank_tl : TL.tl (Str.ofString " ") = [32] := by decide +kernel
theorem joinL_free {s : Nat} {S : List Nat} (hs : s ∉ S) : ∀ {ps : List (List Nat)}, (∀ p ∈ ps, s ∉ p) → s ∉ TL.joinL S ps
  | [], _ => by show s ∉ ([] : List Nat); simp
  | [p], h => h p List.mem_cons_self
  | p :: q :: r, h => by
    have h1 := joinL_free hs (ps := q :: r) fun z hz => h z (List.mem_cons_of_mem _ hz)
    intro hm
    rcases List.mem_append.mp hm with hm | hm
    · exact h p List.mem_cons_self hm
    · rcases List.mem_append.mp hm with hm | hm
      · exact hs hm
      · exact h1 hm
theorem joined_free {ns : List Int} : (10 : Nat) ∉ TL.tl (Txt.join (Str.ofString " ") (words ns)) := by
  rw [TL.join_eq, TL.tl_join]
  refine joinL_free (by rw [blank_tl]; decide) fun p hp => ?_
  obtain ⟨z, hz, rfl⟩ := List.mem_map.mp hp
  obtain ⟨n, _, rfl⟩ := List.mem_map.mp hz
  exact wd_free (n := n) (by omega) (by omega)
theorem text_join (hd : Str) (ns : List Int) : textOf hd ns = Txt.join (Str.ofString "\n") [hd, Txt.join (Str.ofString " ") (words ns), Str.ofString ""] := by
  apply TL.ext_tl
  rw [TL.join_eq, TL.tl_join]
  unfold textOf
  rw [TL.tl_append, TL.tl_append, TL.tl_append]
  show _ = TL.tl hd ++ (TL.tl (Str.ofString "\n") ++ (TL.tl (Txt.join (Str.ofString " ") (words ns)) ++ (TL.tl (Str.ofString "\n") ++ [])))
  simp only [List.append_assoc, List.append_nil]
theorem text_split {hd : Str} {ns : List Int} (h : (10 : Nat) ∉ TL.tl hd) : Txt.split (textOf hd ns) (Str.ofString "\n") = [hd, Txt.join (Str.ofString " ") (words ns), Str.ofString ""] := by
  rw [text_join]
  refine TL.split_join (s := 10) (S := []) nl_tl (by decide +kernel) (by simp) fun p hp => ?_
  simp only [List.mem_cons, List.not_mem_nil, or_false] at hp
  rcases hp with rfl | rfl | rfl
  · exact h
  · exact joined_free
  · decide +kernel
theorem words_split {ns : List Int} (h : ns ≠ []) : Txt.split (Txt.join (Str.ofString " ") (words ns)) (Str.ofString " ") = words ns := by
  refine TL.split_join (s := 32) (S := []) blank_tl (by decide +kernel) (by unfold words; simpa using h) fun p hp => ?_
  obtain ⟨n, _, rfl⟩ := List.mem_map.mp hp
  exact wd_free (n := n) (by omega) (by omega)
theorem text_len {hd : Str} {ns : List Int} (h : ∀ n ∈ ns, In18 n) : (textOf hd ns).length ≤ hd.length + ns.length * 20 + 2 := by
  have h1 := joined_len h
  unfold textOf
  rw [Str.length_append, Str.length_append, Str.length_append, nl_len]
  omega
/-! ### methods of a class -/
structure Mt (K : PySem.W.Frag) (C : Addr) (x qual : Str) (st : Stmt) (ps : List Str) (f : Addr) (fd : FuncData) : Prop where
  F : Fun K x qual st f fd
  b : Binds K fd ps []
  m : Meth K C x f
/-! ### a Taker -/
structure Tk (K : PySem.W.Frag) (mg : Str → Option Value) (C : Addr) : Prop where
  cl : Cls K C
  nI : NoAttr K C "integers"
  nT : NoAttr K C "taken"
  mg : mg "Taker" = some (.ref C)
theorem kit : ¬ (("integers" : Str) = "taken") := by decide +kernel
/-- its attributes -/
def tf (l : Addr) (i : Int) : List (Str × V) := putF "taken" (.int i) (putF "integers" (.ref l) [])
theorem tf_eq (l : Addr) (i : Int) : tf l i = ([("integers", V.ref l), ("taken", V.int i)] : List (Str × V)) := by
  show (if ("integers" : Str) = "taken" then [(("integers" : Str), V.int i)] else (("integers" : Str), V.ref l) :: putF "taken" (V.int i) []) = ([("integers", V.ref l), ("taken", V.int i)] : List (Str × V))
  rw [if_neg kit]
  rfl
theorem tf_int (l : Addr) (i : Int) : (tf l i).lookup ("integers" : Str) = some (.ref l) := by
  unfold tf
  rw [lookup_putF, if_neg kit, lookup_putF, if_pos rfl]
theorem tf_tak (l : Addr) (i : Int) : (tf l i).lookup ("taken" : Str) = some (.int i) := by
  unfold tf
  rw [lookup_putF, if_pos rfl]
theorem tf_no (l : Addr) (i : Int) {m : Str} (h1 : ¬ m = "taken") (h2 : ¬ m = "integers") : (tf l i).lookup m = none := by
  unfold tf
  rw [lookup_putF, if_neg h1, lookup_putF, if_neg h2]
  rfl
theorem tf_put (l : Addr) (i j : Int) : putF "taken" (.int j) (tf l i) = tf l j := by
  rw [tf_eq, tf_eq]
  show (if ("integers" : Str) = "taken" then _ else (("integers" : Str), V.ref l) :: (if ("taken" : Str) = "taken" then [(("taken" : Str), V.int j)] else _)) = ([("integers", V.ref l), ("taken", V.int j)] : List (Str × V))
  rw [if_neg kit, if_pos rfl]
/-- a Taker at p, its list at l, with these integers left -/
def TkAt (C : Addr) (H : Hp) (p l : Addr) (rest : List Int) : Prop := ∃ (dx : Addr) (ns : List Int) (i : Nat), H p = some (.ins C dx (tf l (i : Int))) ∧ H l = some (.lst (ns.map V.int)) ∧ i ≤ ns.length ∧ ns.length ≤ 1000 ∧ ns.drop i = rest
theorem TkAt.keep {C : Addr} {H H' : Hp} {p l : Addr} {rest : List Int} (e : Same H H') (h : TkAt C H p l rest) : TkAt C H' p l rest := by
  obtain ⟨dx, ns, i, h1, h2, h3⟩ := h
  exact ⟨dx, ns, i, e _ _ h1, e _ _ h2, h3⟩
theorem TkAt.but {C o : Addr} {H H' : Hp} {p l : Addr} {rest : List Int} (e : But o H H') (hp : o ≠ p) (hl : o ≠ l) (h : TkAt C H p l rest) : TkAt C H' p l rest := by
  obtain ⟨dx, ns, i, h1, h2, h3⟩ := h
  exact ⟨dx, ns, i, e _ _ hp.symm h1, e _ _ hl.symm h2, h3⟩
theorem TkAt.len {C : Addr} {H : Hp} {p l : Addr} {rest : List Int} (h : TkAt C H p l rest) : rest.length ≤ 1000 := by
  obtain ⟨dx, ns, i, h1, h2, h3, h4, rfl⟩ := h
  rw [List.length_drop]
  omega
/-! ### what stands while an instance changes -/
theorem insTup {C dx : Addr} {fs : List (Str × V)} {K : PySem.W.Frag} {H H' : Hp} {o a : Addr} {ys : List V} (e : But o H H') (ho : H o = some (.ins C dx fs)) (h : SqT K H a ys) : SqT K H' a ys := by
  rcases h with (h | ⟨ob, h⟩) | h
  · exact .inl (.inl (e _ _ (ne_of h ho (by intro z; cases z)) h))
  · exact .inl (.inr ⟨ob, e _ _ (ne_of h ho (by intro z; cases z)) h⟩)
  · exact .inr h
section
variable {K : PySem.W.Frag} {H H' : Hp} {o : Addr} {C dx : Addr} {fs : List (Str × V)}
theorem TupI.ins {a ns} (e : But o H H') (ho : H o = some (.ins C dx fs)) (h : TupI K H a ns) : TupI K H' a ns := insTup e ho h
theorem DdAt.ins {a d} (e : But o H H') (ho : H o = some (.ins C dx fs)) (h : DdAt K H a d) : DdAt K H' a d := by
  obtain ⟨z, rest, h0, h1, h2⟩ := h
  refine ⟨z, rest, h0, insTup e ho h1, ?_⟩
  rcases h2 with ⟨h2, b, h3, h4⟩ | h2
  · exact .inl ⟨h2, b, h3, h4.ins e ho⟩
  · exact .inr h2
theorem EvAt.ins {a d} (e : But o H H') (ho : H o = some (.ins C dx fs)) (h : EvAt K H a d) : EvAt K H' a d := by
  obtain ⟨p, q, d, r, h1, h2, h3, h4, h5⟩ := h
  exact ⟨p, q, d, r, insTup e ho h1, h2.ins e ho, h3.ins e ho, h4.ins e ho, h5.ins e ho⟩
theorem RcAt.ins {a d} (e : But o H H') (ho : H o = some (.ins C dx fs)) (h : RcAt K H a d) : RcAt K H' a d := by
  obtain ⟨p, h1, h2⟩ := h
  exact ⟨p, insTup e ho h1, h2.ins e ho⟩
theorem RcAt.but {xs : List V} {a d} (e : But o H H') (ho : H o = some (.lst xs)) (h : RcAt K H a d) : RcAt K H' a d := by
  obtain ⟨p, h1, h2⟩ := h
  exact ⟨p, butTup e ho h1, h2.but e ho⟩
end
theorem inTk {C p l : Addr} {H : Hp} {rs : List Int} (h : TkAt C H p l rs) : ∃ dx i, H p = some (.ins C dx (tf l i)) := by
  obtain ⟨dx, _, i, h, _⟩ := h
  exact ⟨dx, _, h⟩
theorem lsTk {C p l : Addr} {H : Hp} {rs : List Int} (h : TkAt C H p l rs) : ∃ xs, H l = some (.lst xs) := by
  obtain ⟨dx, _, i, _, h, _⟩ := h
  exact ⟨_, h⟩
theorem evs_len_le : ∀ rs : List Ev, rs.length ≤ (rs.flatMap numE).length
  | [] => Nat.zero_le _
  | a :: r => by
    have ih := evs_len_le r
    rw [List.flatMap_cons, List.length_append, List.length_cons]
    have : 1 ≤ (numE a).length := by unfold numE; simp only [List.length_append, List.length_cons]; omega
    omega
theorem rows_len_le : ∀ rs : List (List Ev), rs.length ≤ (rs.flatMap numEs).length
  | [] => Nat.zero_le _
  | a :: r => by
    have ih := rows_len_le r
    rw [List.flatMap_cons, List.length_append, List.length_cons]
    have : 1 ≤ (numEs a).length := by unfold numEs; rw [List.length_cons]; omega
    omega
end Vs

namespace Vs
open PySem PySem.Spec PyProof.Rows L2
/-! ### == and != of data, whatever its texts -/
section
variable {X : Cx}
def rEqP (K : PySem.W.Frag) : R2 := fun x y H Q => ∃ d e, Dp K H x d ∧ Dp K H y e ∧ d.plain = true ∧ e.plain = true ∧ d.depth ≤ 64 ∧ Q (.bl (PyData.eqv d e)) H
def rNeP (K : PySem.W.Frag) : R2 := fun x y H Q => ∃ d e, Dp K H x d ∧ Dp K H y e ∧ d.plain = true ∧ e.plain = true ∧ d.depth ≤ 64 ∧ Q (.bl (!PyData.eqv d e)) H
theorem op_eqP (hu : X.A.units + 64 < cLine) : OpR X (compareOp .Eq) (rEqP X.K) := by
  intro pins s σ H x y v u Q I rx ry h
  obtain ⟨d, e, hd, he, sd, se, hz, q⟩ := h
  obtain ⟨as, r1⟩ := Dp.reads I d x v hd rx
  obtain ⟨bs, r2⟩ := Dp.reads I e y u he ry
  exact SeqAt.eq_plain r1 r2 sd se (Nat.lt_of_le_of_lt (Nat.add_le_add_left (Nat.le_trans (Nat.min_le_left _ _) hz) _) hu) ⟨.bl _, H, I, rfl, q⟩
theorem op_neP (hu : X.A.units + 64 < cLine) : OpR X (compareOp .NotEq) (rNeP X.K) := by
  intro pins s σ H x y v u Q I rx ry h
  obtain ⟨d, e, hd, he, sd, se, hz, q⟩ := h
  obtain ⟨as, r1⟩ := Dp.reads I d x v hd rx
  obtain ⟨bs, r2⟩ := Dp.reads I e y u he ry
  exact SeqAt.ne_plain r1 r2 sd se (Nat.lt_of_le_of_lt (Nat.add_le_add_left (Nat.le_trans (Nat.min_le_left _ _) hz) _) hu) ⟨.bl _, H, I, rfl, q⟩
end
theorem strs_all {K : PySem.W.Frag} {H : Hp} : ∀ ss : List Str, DpAll K H (ss.map V.str) (ss.map PyData.str)
  | [] => .nil
  | s :: r => .cons (.str s) (strs_all r)
theorem strs_dp {K : PySem.W.Frag} {H : Hp} {a : Addr} {ss : List Str} (h : SqL K H a (ss.map V.str)) : Dp K H (.ref a) (.list (ss.map PyData.str)) := .lst h (strs_all ss)
theorem strs_plain : ∀ ss : List Str, PyData.plainAll (ss.map PyData.str) = true
  | [] => rfl
  | s :: r => by
    show (true && PyData.plainAll (r.map PyData.str)) = true
    rw [strs_plain r]
    rfl
theorem strs_depth : ∀ ss : List Str, PyData.depthAll (ss.map PyData.str) ≤ 1
  | [] => Nat.zero_le _
  | s :: r => by
    show max (PyData.depth (PyData.str s)) (PyData.depthAll (r.map PyData.str)) ≤ 1
    have := strs_depth r
    have h : PyData.depth (PyData.str s) ≤ 1 := by simp [PyData.depth]
    omega
theorem strl_plain (ss : List Str) : (PyData.list (ss.map PyData.str)).plain = true := strs_plain ss
theorem strl_depth (ss : List Str) : (PyData.list (ss.map PyData.str)).depth ≤ 64 := by
  have := strs_depth ss
  simp only [PyData.depth]
  omega
end Vs

namespace Vs
open PySem PySem.Spec PyProof.Rows L2
/-! ### data, and when two of them are the same to the sign -/
inductive DV where
  | bl (b : Bool)
  | int (i : Int)
  | str (z : Str)
  | tup (xs : List DV)
  | lst (xs : List DV)
mutual
def sameV : DV → DV → Bool
  | .bl a, .bl b => a == b
  | .int a, .int b => a == b
  | .str a, .str b => a == b
  | .tup xs, .tup ys => sameVL xs ys
  | .lst xs, .lst ys => sameVL xs ys
  | .bl _, .int _ | .bl _, .str _ | .bl _, .tup _ | .bl _, .lst _ => false
  | .int _, .bl _ | .int _, .str _ | .int _, .tup _ | .int _, .lst _ => false
  | .str _, .bl _ | .str _, .int _ | .str _, .tup _ | .str _, .lst _ => false
  | .tup _, .bl _ | .tup _, .int _ | .tup _, .str _ | .tup _, .lst _ => false
  | .lst _, .bl _ | .lst _, .int _ | .lst _, .str _ | .lst _, .tup _ => false
def sameVL : List DV → List DV → Bool
  | [], [] => true
  | x :: xs, y :: ys => sameV x y && sameVL xs ys
  | [], _ :: _ => false
  | _ :: _, [] => false
end
mutual
def depV : DV → Nat
  | .tup xs | .lst xs => depVL xs + 1
  | .bl _ | .int _ | .str _ => 1
def depVL : List DV → Nat
  | [] => 0
  | x :: xs => max (depV x) (depVL xs)
end
mutual
def Den (K : PySem.W.Frag) (H : Hp) : DV → V → Prop
  | .bl b, v => v = .bl b
  | .int i, v => v = .int i
  | .str z, v => v = .str z
  | .tup xs, v => ∃ a vs, v = .ref a ∧ SqT K H a vs ∧ vs.length ≤ 1000 ∧ DenL K H xs vs
  | .lst xs, v => ∃ a vs, v = .ref a ∧ SqL K H a vs ∧ vs.length ≤ 1000 ∧ DenL K H xs vs
def DenL (K : PySem.W.Frag) (H : Hp) : List DV → List V → Prop
  | [], vs => vs = []
  | d :: ds, vs => ∃ v r, vs = v :: r ∧ Den K H d v ∧ DenL K H ds r
end
mutual
theorem sameV_eq : ∀ d e : DV, sameV d e = true → d = e
  | .bl a, .bl b, h => by simp [sameV] at h; rw [h]
  | .int a, .int b, h => by simp [sameV] at h; rw [h]
  | .str a, .str b, h => by simp [sameV] at h; rw [h]
  | .tup xs, .tup ys, h => by rw [sameVL_eq xs ys (by simpa [sameV] using h)]
  | .lst xs, .lst ys, h => by rw [sameVL_eq xs ys (by simpa [sameV] using h)]
  | .bl _, .int _, h | .bl _, .str _, h | .bl _, .tup _, h | .bl _, .lst _, h => by simp [sameV] at h
  | .int _, .bl _, h | .int _, .str _, h | .int _, .tup _, h | .int _, .lst _, h => by simp [sameV] at h
  | .str _, .bl _, h | .str _, .int _, h | .str _, .tup _, h | .str _, .lst _, h => by simp [sameV] at h
  | .tup _, .bl _, h | .tup _, .int _, h | .tup _, .str _, h | .tup _, .lst _, h => by simp [sameV] at h
  | .lst _, .bl _, h | .lst _, .int _, h | .lst _, .str _, h | .lst _, .tup _, h => by simp [sameV] at h
theorem sameVL_eq : ∀ d e : List DV, sameVL d e = true → d = e
  | [], [], _ => rfl
  | x :: xs, y :: ys, h => by
    have h' : sameV x y = true ∧ sameVL xs ys = true := by simpa [sameVL] using h
    rw [sameV_eq x y h'.1, sameVL_eq xs ys h'.2]
  | [], _ :: _, h => by simp [sameVL] at h
  | _ :: _, [], h => by simp [sameVL] at h
end
mutual
theorem sameV_refl : ∀ d : DV, sameV d d = true
  | .bl a => by simp [sameV]
  | .int a => by simp [sameV]
  | .str a => by simp [sameV]
  | .tup xs => by rw [sameV]; exact sameVL_refl xs
  | .lst xs => by rw [sameV]; exact sameVL_refl xs
theorem sameVL_refl : ∀ d : List DV, sameVL d d = true
  | [] => by simp [sameVL]
  | x :: xs => by rw [sameVL, sameV_refl x, sameVL_refl xs]; rfl
end
theorem sameVL_at : ∀ {xs ys : List DV}, xs.length = ys.length → (∀ (i : Nat) x y, xs[i]? = some x → ys[i]? = some y → sameV x y = true) → sameVL xs ys = true
  | [], [], _, _ => by simp [sameVL]
  | x :: xs, y :: ys, hl, h => by
    rw [sameVL, h 0 x y rfl rfl, sameVL_at (Nat.succ.inj hl) fun i u v h1 h2 => h (i + 1) u v h1 h2]
    rfl
theorem sameVL_len : ∀ {xs ys : List DV}, xs.length ≠ ys.length → sameVL xs ys = false
  | [], [], h => absurd rfl h
  | x :: xs, y :: ys, h => by
    rw [sameVL, sameVL_len fun e => h (by rw [List.length_cons, List.length_cons, e]), Bool.and_false]
  | [], _ :: _, _ => by simp [sameVL]
  | _ :: _, [], _ => by simp [sameVL]
theorem sameVL_no : ∀ {xs ys : List DV} {i : Nat} {x y : DV}, xs[i]? = some x → ys[i]? = some y → sameV x y = false → sameVL xs ys = false
  | x :: xs, y :: ys, 0, _, _, h1, h2, h => by
    cases h1
    cases h2
    rw [sameVL, h]
    rfl
  | x :: xs, y :: ys, i + 1, u, v, h1, h2, h => by
    rw [sameVL, sameVL_no (i := i) h1 h2 h, Bool.and_false]
  | [], _, _, _, _, h1, _, _ => by simp at h1
  | _ :: _, [], _, _, _, _, h2, _ => by simp at h2
theorem depVL_at : ∀ {xs : List DV} {i : Nat} {x : DV}, xs[i]? = some x → depV x ≤ depVL xs
  | x :: xs, 0, _, h => by cases h; rw [depVL]; omega
  | x :: xs, i + 1, u, h => by
    have := depVL_at (xs := xs) (i := i) h
    rw [depVL]
    omega
  | [], _, _, h => by simp at h
section
variable {K : PySem.W.Frag} {H H' : Hp}
theorem DenL.len : ∀ {ds : List DV} {vs : List V}, DenL K H ds vs → vs.length = ds.length
  | [], _, h => by rw [DenL] at h; rw [h]; rfl
  | d :: ds, _, h => by
    rw [DenL] at h
    obtain ⟨v, r, rfl, _, h2⟩ := h
    rw [List.length_cons, List.length_cons, DenL.len h2]
theorem DenL.get : ∀ {ds : List DV} {vs : List V} {i : Nat} {d : DV}, DenL K H ds vs → ds[i]? = some d → ∃ v, vs[i]? = some v ∧ Den K H d v
  | d :: ds, _, 0, _, h, hi => by
    rw [DenL] at h
    obtain ⟨v, r, rfl, h1, _⟩ := h
    cases hi
    exact ⟨v, rfl, h1⟩
  | d :: ds, _, i + 1, e, h, hi => by
    rw [DenL] at h
    obtain ⟨v, r, rfl, _, h2⟩ := h
    exact DenL.get (i := i) h2 hi
  | [], _, _, _, _, hi => by simp at hi
theorem DenL.ints : ∀ {ns : List Int}, DenL K H (ns.map DV.int) (ns.map V.int)
  | [] => by rw [List.map_nil, DenL]; rfl
  | n :: r => by
    rw [List.map_cons, DenL]
    exact ⟨_, _, rfl, by rw [Den], DenL.ints⟩
theorem DenL.refs {α : Type} {P : Addr → α → Prop} {f : α → DV} (h : ∀ a x, P a x → Den K H (f x) (.ref a)) : ∀ {as : List Addr} {xs : List α}, Each P as xs → DenL K H (xs.map f) (as.map V.ref)
  | [], [], _ => by rw [List.map_nil, DenL]; rfl
  | a :: as, x :: xs, e => by
    rw [List.map_cons, DenL]
    exact ⟨_, _, rfl, h a x (e.2 0 a x rfl rfl), DenL.refs h ⟨Nat.succ.inj e.1, fun i b y h1 h2 => e.2 (i + 1) b y h1 h2⟩⟩
  | [], _ :: _, e => absurd e.1 (by simp)
  | _ :: _, [], e => absurd e.1 (by simp)
/-- the name of its type -/
def tyN : DV → String
  | .bl _ => "bool"
  | .int _ => "int"
  | .str _ => "str"
  | .tup _ => "tuple"
  | .lst _ => "list"
theorem Den.ty {d : DV} {v : V} (h : Den K H d v) : TyX K H v (.type (tyN d)) := by
  cases d with
  | bl b => rw [Den] at h; rw [h]; exact .base (.bl _)
  | int b => rw [Den] at h; rw [h]; exact .base (.int _)
  | str b => rw [Den] at h; rw [h]; exact .base (.str _)
  | tup xs => rw [Den] at h; obtain ⟨a, vs, rfl, h1, _⟩ := h; exact tyT h1
  | lst xs => rw [Den] at h; obtain ⟨a, vs, rfl, h1, _⟩ := h; exact tyL h1
theorem Den.int_ {i : Int} : Den K H (.int i) (.int i) := by rw [Den]
theorem Den.bl_ {i : Bool} : Den K H (.bl i) (.bl i) := by rw [Den]
theorem Den.str_ {i : Str} : Den K H (.str i) (.str i) := by rw [Den]
theorem Den.tup_ {a : Addr} {vs : List V} {ds : List DV} (h : SqT K H a vs) (hl : vs.length ≤ 1000) (e : DenL K H ds vs) : Den K H (.tup ds) (.ref a) := by rw [Den]; exact ⟨a, vs, rfl, h, hl, e⟩
theorem DenL.nil_ : DenL K H [] [] := by rw [DenL]
theorem DenL.cons_ {d : DV} {ds : List DV} {v : V} {vs : List V} (h : Den K H d v) (t : DenL K H ds vs) : DenL K H (d :: ds) (v :: vs) := by rw [DenL]; exact ⟨_, _, rfl, h, t⟩
/-! ### a letter as data -/
def dvI (ns : List Int) : DV := .tup (ns.map DV.int)
def dvD (d : Dd) : DV := .tup (.str (deedNames.getD d.place Str.empty) :: (if d.place = 8 then [dvI d.nums] else d.nums.map DV.int))
def dvE (e : Ev) : DV := .tup [.bl e.asleep, dvI e.shown, dvI e.after, dvD e.deed, dvI e.knows]
def dvR (r : Rc) : DV := .tup [.int r.dev, .int r.num, dvE r.ev]
def dvL (l : Lt) : DV := .tup [.int l.s, .int l.r, .int l.k, .int l.n, .tup (l.recs.map dvR)]
theorem denI {a ns} (h : TupI K H a ns) (hl : ns.length ≤ 1000) : Den K H (dvI ns) (.ref a) := Den.tup_ h (by rw [List.length_map]; exact hl) DenL.ints
theorem denD {a d} (h : DdAt K H a d) (hk : d.Ok) : Den K H (dvD d) (.ref a) := by
  have hl := hk.len
  obtain ⟨z, r, e, t, q⟩ := h
  have ez : deedNames.getD d.place Str.empty = z := by rw [List.getD_eq_getElem?_getD, e]; rfl
  unfold dvD
  rw [ez]
  rcases q with ⟨p8, b, rfl, h2⟩ | ⟨n8, rfl⟩
  · rw [if_pos p8]
    exact Den.tup_ t (by show 2 ≤ 1000; decide) (DenL.cons_ Den.str_ (DenL.cons_ (denI h2 (by omega)) DenL.nil_))
  · rw [if_neg n8]
    exact Den.tup_ t (by rw [List.length_cons, List.length_map]; omega) (DenL.cons_ Den.str_ DenL.ints)
theorem denE {a e} (h : EvAt K H a e) (hk : e.Ok) : Den K H (dvE e) (.ref a) := by
  have k1 := hk.s1; have k2 := hk.s2; have k3 := hk.s3
  obtain ⟨p, q, d, r, t, f1, f2, f3, f4⟩ := h
  exact Den.tup_ t (by show 5 ≤ 1000; decide) (DenL.cons_ Den.bl_ (DenL.cons_ (denI f1 (by omega)) (DenL.cons_ (denI f2 (by omega)) (DenL.cons_ (denD f3 hk.d) (DenL.cons_ (denI f4 (by omega)) DenL.nil_)))))
theorem denR {a r} (h : RcAt K H a r) (hk : r.Ok) : Den K H (dvR r) (.ref a) := by
  obtain ⟨e, t, f⟩ := h
  exact Den.tup_ t (by show 3 ≤ 1000; decide) (DenL.cons_ Den.int_ (DenL.cons_ Den.int_ (DenL.cons_ (denE f hk.e) DenL.nil_)))
theorem denL {a l} (h : LtAt K H a l) (hk : l.Ok) : Den K H (dvL l) (.ref a) := by
  have hl := hk.len
  obtain ⟨b, as, t, f, g⟩ := h
  refine Den.tup_ t (by show 5 ≤ 1000; decide) (DenL.cons_ Den.int_ (DenL.cons_ Den.int_ (DenL.cons_ Den.int_ (DenL.cons_ Den.int_ (DenL.cons_ (Den.tup_ f (by rw [List.length_map, g.1]; omega) ?_) DenL.nil_)))))
  exact DenL.refs (P := fun a r => RcAt K H a r ∧ r.Ok) (fun a r h => denR h.1 h.2) ⟨g.1, fun i b y h1 h2 => ⟨g.2 i b y h1 h2, hk.rs y (List.mem_of_getElem? h2)⟩⟩
end
theorem int_inj {as bs : List Int} (h : as.map DV.int = bs.map DV.int) : as = bs := by
  induction as generalizing bs with
  | nil =>
    cases bs with
    | nil => rfl
    | cons b r => simp at h
  | cons a r ih =>
    cases bs with
    | nil => simp at h
    | cons b s =>
      rw [List.map_cons, List.map_cons] at h
      injection h with h1 h2
      injection h1 with h1
      rw [h1, ih h2]
theorem dvI_inj {as bs : List Int} (h : dvI as = dvI bs) : as = bs := by
  unfold dvI at h
  injection h with h
  exact int_inj h
theorem dvD_inj {a b : Dd} (ha : a.place < 9) (hb : b.place < 9) (h : dvD a = dvD b) : a = b := by
  unfold dvD at h
  injection h with h
  injection h with h1 h2
  injection h1 with h1
  have e1 : deedNames[a.place]? = some (deedNames.getD a.place Str.empty) := by rw [List.getD_eq_getElem?_getD, List.getElem?_eq_getElem (by rw [dn_len]; exact ha)]; rfl
  have e2 : deedNames[b.place]? = some (deedNames.getD b.place Str.empty) := by rw [List.getD_eq_getElem?_getD, List.getElem?_eq_getElem (by rw [dn_len]; exact hb)]; rfl
  rw [h1] at e1
  have hp := nd_ix dn_nodup e1 e2
  have hn : a.nums = b.nums := by
    by_cases h8 : b.place = 8
    · rw [if_pos (hp.trans h8), if_pos h8] at h2
      injection h2 with h2
      exact dvI_inj h2
    · rw [if_neg (fun e => h8 (hp ▸ e)), if_neg h8] at h2
      exact int_inj h2
  cases a; cases b
  simp only at hp hn
  rw [hp, hn]
theorem dvE_inj {a b : Ev} (ha : a.Ok) (hb : b.Ok) (h : dvE a = dvE b) : a = b := by
  unfold dvE at h
  injection h with h
  injection h with h1 h
  injection h with h2 h
  injection h with h3 h
  injection h with h4 h
  injection h with h5 h
  injection h1 with h1
  have e2 := dvI_inj h2
  have e3 := dvI_inj h3
  have e4 := dvD_inj ha.d.pl hb.d.pl h4
  have e5 := dvI_inj h5
  cases a; cases b
  simp only at h1 e2 e3 e4 e5
  rw [h1, e2, e3, e4, e5]
theorem dvR_inj {a b : Rc} (ha : a.Ok) (hb : b.Ok) (h : dvR a = dvR b) : a = b := by
  unfold dvR at h
  injection h with h
  injection h with h1 h
  injection h with h2 h
  injection h with h3 h
  injection h1 with h1
  injection h2 with h2
  have e3 := dvE_inj ha.e hb.e h3
  cases a; cases b
  simp only at h1 h2 e3
  rw [h1, h2, e3]
theorem recs_inj : ∀ {as bs : List Rc}, (∀ r ∈ as, r.Ok) → (∀ r ∈ bs, r.Ok) → as.map dvR = bs.map dvR → as = bs
  | [], [], _, _, _ => rfl
  | [], _ :: _, _, _, h => by simp at h
  | _ :: _, [], _, _, h => by simp at h
  | a :: as, b :: bs, ha, hb, h => by
    rw [List.map_cons, List.map_cons] at h
    injection h with h1 h2
    rw [dvR_inj (ha a List.mem_cons_self) (hb b List.mem_cons_self) h1, recs_inj (fun r hr => ha r (List.mem_cons_of_mem _ hr)) (fun r hr => hb r (List.mem_cons_of_mem _ hr)) h2]
theorem dvL_inj {a b : Lt} (ha : a.Ok) (hb : b.Ok) (h : dvL a = dvL b) : a = b := by
  unfold dvL at h
  injection h with h
  injection h with h1 h
  injection h with h2 h
  injection h with h3 h
  injection h with h4 h
  injection h with h5 h
  injection h1 with h1
  injection h2 with h2
  injection h3 with h3
  injection h4 with h4
  injection h5 with h5
  have e5 := recs_inj ha.rs hb.rs h5
  cases a; cases b
  simp only at h1 h2 h3 h4 e5
  rw [h1, h2, h3, h4, e5]
/-! ### the integers tell the letter -/
theorem numSeq_inj {as bs r s : List Int} (h : numSeq as ++ r = numSeq bs ++ s) : as = bs ∧ r = s := by
  unfold numSeq at h
  rw [List.cons_append, List.cons_append] at h
  injection h with h1 h2
  exact List.append_inj h2 (by omega)
theorem numD_inj {a b : Dd} {r s : List Int} (ha : a.Ok) (hb : b.Ok) (h : numD a ++ r = numD b ++ s) : a = b ∧ r = s := by
  unfold numD at h
  rw [List.cons_append, List.cons_append] at h
  injection h with h1 h2
  have hp : a.place = b.place := by omega
  have key : a.nums = b.nums ∧ r = s := by
    by_cases h8 : b.place = 8
    · rw [if_pos (hp.trans h8), if_pos h8] at h2
      exact numSeq_inj h2
    · rw [if_neg (fun e => h8 (hp ▸ e)), if_neg h8] at h2
      exact List.append_inj h2 (by rw [ha.ar (fun e => h8 (hp ▸ e)), hb.ar h8, hp])
  refine ⟨?_, key.2⟩
  cases a; cases b
  simp only at hp key
  rw [hp, key.1]
theorem b2n_inj {a b : Bool} (h : b2n a = b2n b) : a = b := by
  cases a <;> cases b <;> first | rfl | (exact absurd h (by decide))
theorem numE_app' (e : Ev) (rest : List Int) : numE e ++ rest = b2n e.asleep :: (numSeq e.shown ++ (numSeq e.after ++ (numD e.deed ++ (numSeq e.knows ++ rest)))) := by
  unfold numE
  simp only [List.append_assoc]
  rfl
theorem numE_inj {a b : Ev} {r s : List Int} (ha : a.Ok) (hb : b.Ok) (h : numE a ++ r = numE b ++ s) : a = b ∧ r = s := by
  rw [numE_app', numE_app'] at h
  injection h with h1 h
  obtain ⟨h2, h⟩ := numSeq_inj h
  obtain ⟨h3, h⟩ := numSeq_inj h
  obtain ⟨h4, h⟩ := numD_inj ha.d hb.d h
  obtain ⟨h5, h⟩ := numSeq_inj h
  have e1 := b2n_inj h1
  refine ⟨?_, h⟩
  cases a; cases b
  simp only at e1 h2 h3 h4 h5
  rw [e1, h2, h3, h4, h5]
theorem numR_inj {a b : Rc} {r s : List Int} (ha : a.Ok) (hb : b.Ok) (h : numR a ++ r = numR b ++ s) : a = b ∧ r = s := by
  have h' : a.dev :: a.num :: (numE a.ev ++ r) = b.dev :: b.num :: (numE b.ev ++ s) := h
  injection h' with h1 h'
  injection h' with h2 h'
  obtain ⟨h3, h⟩ := numE_inj ha.e hb.e h'
  refine ⟨?_, h⟩
  cases a; cases b
  simp only at h1 h2 h3
  rw [h1, h2, h3]
theorem numRs_inj : ∀ {as bs : List Rc}, (∀ r ∈ as, r.Ok) → (∀ r ∈ bs, r.Ok) → as.length = bs.length → as.flatMap numR = bs.flatMap numR → as = bs
  | [], [], _, _, _, _ => rfl
  | [], _ :: _, _, _, h, _ => by simp at h
  | _ :: _, [], _, _, h, _ => by simp at h
  | a :: as, b :: bs, ha, hb, hl, h => by
    rw [List.flatMap_cons, List.flatMap_cons] at h
    obtain ⟨h1, h2⟩ := numR_inj (ha a List.mem_cons_self) (hb b List.mem_cons_self) h
    rw [h1, numRs_inj (fun r hr => ha r (List.mem_cons_of_mem _ hr)) (fun r hr => hb r (List.mem_cons_of_mem _ hr)) (Nat.succ.inj hl) h2]
theorem numL_inj {a b : Lt} (ha : a.Ok) (hb : b.Ok) (h : numL a = numL b) : a = b := by
  have h' : a.s :: a.r :: a.k :: a.n :: (a.recs.length : Int) :: a.recs.flatMap numR = b.s :: b.r :: b.k :: b.n :: (b.recs.length : Int) :: b.recs.flatMap numR := h
  injection h' with h1 h'
  injection h' with h2 h'
  injection h' with h3 h'
  injection h' with h4 h'
  injection h' with h5 h'
  have e6 := numRs_inj ha.rs hb.rs (by omega) h'
  cases a; cases b
  simp only at h1 h2 h3 h4 e6
  rw [h1, h2, h3, h4, e6]
theorem words_inj : ∀ {as bs : List Int}, (∀ n ∈ as, In18 n) → (∀ n ∈ bs, In18 n) → words as = words bs → as = bs
  | [], [], _, _, _ => rfl
  | [], _ :: _, _, _, h => by simp [words] at h
  | _ :: _, [], _, _, h => by simp [words] at h
  | a :: as, b :: bs, ha, hb, h => by
    unfold words at h
    rw [List.map_cons, List.map_cons] at h
    injection h with h1 h2
    have e1 := wd_int (ha a List.mem_cons_self)
    have e2 := wd_int (hb b List.mem_cons_self)
    have h1 : wd a = wd b := h1
    rw [h1, e2] at e1
    rw [Option.some.inj e1, words_inj (fun r hr => ha r (List.mem_cons_of_mem _ hr)) (fun r hr => hb r (List.mem_cons_of_mem _ hr)) h2]
theorem text_inj {hd : Str} {as bs : List Int} (hf : (10 : Nat) ∉ TL.tl hd) (ha : ∀ n ∈ as, In18 n) (hb : ∀ n ∈ bs, In18 n) (na : as ≠ []) (nb : bs ≠ []) (h : textOf hd as = textOf hd bs) : as = bs := by
  have e1 := text_split (ns := as) hf
  have e2 := text_split (ns := bs) hf
  rw [h, e2] at e1
  injection e1 with _ e1
  injection e1 with e1 _
  have w1 := words_split na
  have w2 := words_split nb
  rw [← e1, w2] at w1
  exact (words_inj hb ha w1).symm
theorem letter_text_iff {a b : Lt} (ha : a.Ok) (hb : b.Ok) : decide (V.str (textOf "whensure letter" (numL a)) = V.str (textOf "whensure letter" (numL b))) = sameV (dvL a) (dvL b) := by
  by_cases h : a = b
  · rw [h, sameV_refl, decide_eq_true rfl]
  · have h1 : sameV (dvL a) (dvL b) = false := by
      cases e : sameV (dvL a) (dvL b) with
      | false => rfl
      | true => exact absurd (dvL_inj ha hb (sameV_eq _ _ e)) h
    rw [h1]
    refine decide_eq_false fun e => h ?_
    injection e with e
    exact numL_inj ha hb (text_inj (by decide +kernel) (numL_in ha) (numL_in hb) (by unfold numL; simp) (by unfold numL; simp) e)

theorem ifIntT {a b : Int} {A B : Prop} (h : a = b) (x : A) : if decide (V.int a = V.int b) = true then A else B := by
  rw [decide_eq_true (show V.int a = V.int b by rw [h])]
  exact iteT x
theorem ifIntF {a b : Int} {A B : Prop} (h : a ≠ b) (x : B) : if decide (V.int a = V.int b) = true then A else B := by
  rw [decide_eq_false (show ¬ V.int a = V.int b from fun e => h (by injection e))]
  exact iteF x
theorem depVL_le {n : Nat} : ∀ {xs : List DV}, (∀ x ∈ xs, depV x ≤ n) → depVL xs ≤ n
  | [], _ => by rw [depVL]; exact Nat.zero_le _
  | x :: xs, h => by
    have h1 := h x List.mem_cons_self
    have h2 := depVL_le (xs := xs) fun y hy => h y (List.mem_cons_of_mem _ hy)
    rw [depVL]
    omega
theorem dep_ints (ns : List Int) : depVL (ns.map DV.int) ≤ 1 := depVL_le fun x hx => by
  obtain ⟨n, _, rfl⟩ := List.mem_map.mp hx
  rw [depV]
  omega
theorem dep_I (ns : List Int) : depV (dvI ns) ≤ 2 := by
  have := dep_ints ns
  unfold dvI
  rw [depV]
  omega
theorem dep_D (d : Dd) : depV (dvD d) ≤ 3 := by
  unfold dvD
  rw [depV, depVL, depV]
  split
  · have := dep_I d.nums
    rw [depVL, depVL]
    omega
  · have := dep_ints d.nums
    omega
theorem dep_E (e : Ev) : depV (dvE e) ≤ 4 := by
  have h1 := dep_I e.shown; have h2 := dep_I e.after; have h3 := dep_D e.deed; have h4 := dep_I e.knows
  unfold dvE
  rw [depV, depVL, depVL, depVL, depVL, depVL, depVL, depV]
  omega
theorem dep_R (r : Rc) : depV (dvR r) ≤ 5 := by
  have h1 := dep_E r.ev
  unfold dvR
  rw [depV, depVL, depVL, depVL, depVL, depV, depV]
  omega
theorem dep_L (l : Lt) : depV (dvL l) ≤ 7 := by
  have h1 : depVL (l.recs.map dvR) ≤ 5 := depVL_le fun x hx => by
    obtain ⟨r, _, rfl⟩ := List.mem_map.mp hx
    exact dep_R r
  unfold dvL
  rw [depV, depVL, depVL, depVL, depVL, depVL, depVL, depV, depV, depV, depV, depV]
  omega
theorem kitAll : ∀ t ∈ ["bool", "int", "str", "tuple", "list"], kitB t "bool" = some (t == "bool") ∧ kitB t "int" = some (t == "int" || t == "bool") ∧ kitB t "str" = some (t == "str") ∧ kitB t "tuple" = some (t == "tuple") ∧ kitB t "list" = some (t == "list") := by decide +kernel
theorem tyN_mem (d : DV) : tyN d ∈ ["bool", "int", "str", "tuple", "list"] := by cases d <;> simp [tyN]
theorem kB (d : DV) : kitB (tyN d) "bool" = some (tyN d == "bool") := (kitAll _ (tyN_mem d)).1
theorem kI (d : DV) : kitB (tyN d) "int" = some (tyN d == "int" || tyN d == "bool") := (kitAll _ (tyN_mem d)).2.1
theorem kS (d : DV) : kitB (tyN d) "str" = some (tyN d == "str") := (kitAll _ (tyN_mem d)).2.2.1
theorem kT (d : DV) : kitB (tyN d) "tuple" = some (tyN d == "tuple") := (kitAll _ (tyN_mem d)).2.2.2.1
theorem kL (d : DV) : kitB (tyN d) "list" = some (tyN d == "list") := (kitAll _ (tyN_mem d)).2.2.2.2
theorem Each.take {α : Type} {P : Addr → α → Prop} {as xs} (h : Each P as xs) (n : Nat) : Each P (as.take n) (xs.take n) := by
  refine ⟨by rw [List.length_take, List.length_take, h.1], fun i a x h1 h2 => ?_⟩
  have hi : i < n := by
    have := (List.getElem?_eq_some_iff.mp h1).1
    rw [List.length_take] at this
    omega
  rw [List.getElem?_take_of_lt hi] at h1 h2
  exact h.2 i a x h1 h2
theorem Each.drop {α : Type} {P : Addr → α → Prop} {as xs} (h : Each P as xs) (n : Nat) : Each P (as.drop n) (xs.drop n) := by
  refine ⟨by rw [List.length_drop, List.length_drop, h.1], fun i a x h1 h2 => ?_⟩
  rw [List.getElem?_drop] at h1 h2
  exact h.2 _ a x h1 h2
theorem Each.append {α : Type} {P : Addr → α → Prop} {as xs bs ys} (h : Each P as xs) (h' : Each P bs ys) : Each P (as ++ bs) (xs ++ ys) := by
  refine ⟨by rw [List.length_append, List.length_append, h.1, h'.1], fun i a x h1 h2 => ?_⟩
  by_cases hi : i < as.length
  · rw [List.getElem?_append_left hi] at h1
    rw [List.getElem?_append_left (by rw [← h.1]; exact hi)] at h2
    exact h.2 i a x h1 h2
  · rw [List.getElem?_append_right (by omega)] at h1
    rw [List.getElem?_append_right (by rw [← h.1]; omega), ← h.1] at h2
    exact h'.2 _ a x h1 h2
theorem Each.set {α : Type} {P : Addr → α → Prop} {as xs} (h : Each P as xs) {j : Nat} {a : Addr} {x : α} (p : P a x) : Each P (as.set j a) (xs.set j x) := by
  refine ⟨by rw [List.length_set, List.length_set, h.1], fun i b y h1 h2 => ?_⟩
  by_cases hij : j = i
  · subst hij
    have hj : j < as.length := by
      have := (List.getElem?_eq_some_iff.mp h1).1
      rw [List.length_set] at this
      exact this
    rw [List.getElem?_set_self hj] at h1
    rw [List.getElem?_set_self (by rw [← h.1]; exact hj)] at h2
    cases h1
    cases h2
    exact p
  · rw [List.getElem?_set_ne hij] at h1 h2
    exact h.2 i b y h1 h2

theorem ixn {n j : Nat} (hj : j < n) : ixN n (j : Int) = some j := by
  unfold ixN
  rw [if_pos (by omega), if_pos (by omega)]
  rfl
end Vs

namespace Vs
open PySem PySem.Spec PyProof.Rows L2
/-! ### what a frame holds -/
structure Kd where
  name : Str
  low : Int
  high : Option Int
structure Cl where
  name : Str
  dev : Int
  goes : Bool
  kinds : List Kd
structure Lk where
  name : Str
  s : Int
  r : Int
  kinds : List Kd
structure Sr where
  name : Str
  dev : Int
  kinds : List Kd
structure Fm where
  devices : List Str
  clocks : List Cl
  links : List Lk
  sources : List Sr
  faults : Int
def hiV : Option Int → V
  | some h => .int h
  | none => .non
def KdAt (K : PySem.W.Frag) (H : Hp) (a : Addr) (k : Kd) : Prop := SqT K H a [.str k.name, .int k.low, hiV k.high]
def KsAt (K : PySem.W.Frag) (H : Hp) (a : Addr) (ks : List Kd) : Prop := ∃ as, SqT K H a (as.map V.ref) ∧ Each (KdAt K H) as ks
def ClAt (K : PySem.W.Frag) (H : Hp) (a : Addr) (c : Cl) : Prop := ∃ t, SqT K H a [.str c.name, .int c.dev, .bl c.goes, .ref t] ∧ KsAt K H t c.kinds
def LkAt (K : PySem.W.Frag) (H : Hp) (a : Addr) (c : Lk) : Prop := ∃ t, SqT K H a [.str c.name, .int c.s, .int c.r, .ref t] ∧ KsAt K H t c.kinds
def SrAt (K : PySem.W.Frag) (H : Hp) (a : Addr) (c : Sr) : Prop := ∃ t, SqT K H a [.str c.name, .int c.dev, .ref t] ∧ KsAt K H t c.kinds
structure Kd.Ok (k : Kd) : Prop where
  nm : k.name.length ≤ 12
  lo : In18 k.low
  hi : ∀ h, k.high = some h → In18 h
structure KsOk (ks : List Kd) : Prop where
  len : ks.length ≤ 4
  ok : ∀ k ∈ ks, k.Ok
/-- a number that names one of n devices -/
def DevOk (n : Nat) (d : Int) : Prop := 0 ≤ d ∧ d < (n : Int)
structure Cl.Ok (n : Nat) (c : Cl) : Prop where
  nm : c.name.length ≤ 12
  dv : DevOk n c.dev
  ks : KsOk c.kinds
structure Lk.Ok (n : Nat) (c : Lk) : Prop where
  nm : c.name.length ≤ 12
  ds : DevOk n c.s
  dr : DevOk n c.r
  ks : KsOk c.kinds
structure Sr.Ok (n : Nat) (c : Sr) : Prop where
  nm : c.name.length ≤ 12
  dv : DevOk n c.dev
  ks : KsOk c.kinds
structure Fm.Ok (F : Fm) : Prop where
  dl : F.devices.length ≤ 6
  dn : ∀ z ∈ F.devices, z.length ≤ 12
  cl : F.clocks.length ≤ 9
  ll : F.links.length ≤ 9
  sl : F.sources.length ≤ 9
  c : ∀ c ∈ F.clocks, c.Ok F.devices.length
  l : ∀ c ∈ F.links, c.Ok F.devices.length
  s : ∀ c ∈ F.sources, c.Ok F.devices.length
  f0 : 0 ≤ F.faults
  f2 : F.faults ≤ 2
/-- a frame's five places: the lists, and what they hold -/
structure FmIn (K : PySem.W.Frag) (H : Hp) (d c l s : Addr) (F : Fm) : Prop where
  d : H d = some (.lst (F.devices.map V.str))
  c : ∃ as, H c = some (.lst (as.map V.ref)) ∧ Each (ClAt K H) as F.clocks
  l : ∃ as, H l = some (.lst (as.map V.ref)) ∧ Each (LkAt K H) as F.links
  s : ∃ as, H s = some (.lst (as.map V.ref)) ∧ Each (SrAt K H) as F.sources
def FmAt (K : PySem.W.Frag) (H : Hp) (a : Addr) (F : Fm) : Prop := ∃ d c l s, SqT K H a [.ref d, .ref c, .ref l, .ref s, .int F.faults] ∧ FmIn K H d c l s F
section
variable {K : PySem.W.Frag} {H H' : Hp}
theorem KdAt.keep {a k} (e : Same H H') (h : KdAt K H a k) : KdAt K H' a k := sTup e h
theorem KsAt.keep {a k} (e : Same H H') (h : KsAt K H a k) : KsAt K H' a k := by
  obtain ⟨as, h1, h2⟩ := h
  exact ⟨as, sTup e h1, h2.keep fun _ _ z => z.keep e⟩
theorem ClAt.keep {a k} (e : Same H H') (h : ClAt K H a k) : ClAt K H' a k := by
  obtain ⟨t, h1, h2⟩ := h
  exact ⟨t, sTup e h1, h2.keep e⟩
theorem LkAt.keep {a k} (e : Same H H') (h : LkAt K H a k) : LkAt K H' a k := by
  obtain ⟨t, h1, h2⟩ := h
  exact ⟨t, sTup e h1, h2.keep e⟩
theorem SrAt.keep {a k} (e : Same H H') (h : SrAt K H a k) : SrAt K H' a k := by
  obtain ⟨t, h1, h2⟩ := h
  exact ⟨t, sTup e h1, h2.keep e⟩
variable {o : Addr} {xs : List V}
theorem KdAt.but {a k} (e : But o H H') (ho : H o = some (.lst xs)) (h : KdAt K H a k) : KdAt K H' a k := butTup e ho h
theorem KsAt.but {a k} (e : But o H H') (ho : H o = some (.lst xs)) (h : KsAt K H a k) : KsAt K H' a k := by
  obtain ⟨as, h1, h2⟩ := h
  exact ⟨as, butTup e ho h1, h2.keep fun _ _ z => z.but e ho⟩
theorem ClAt.but {a k} (e : But o H H') (ho : H o = some (.lst xs)) (h : ClAt K H a k) : ClAt K H' a k := by
  obtain ⟨t, h1, h2⟩ := h
  exact ⟨t, butTup e ho h1, h2.but e ho⟩
theorem LkAt.but {a k} (e : But o H H') (ho : H o = some (.lst xs)) (h : LkAt K H a k) : LkAt K H' a k := by
  obtain ⟨t, h1, h2⟩ := h
  exact ⟨t, butTup e ho h1, h2.but e ho⟩
theorem SrAt.but {a k} (e : But o H H') (ho : H o = some (.lst xs)) (h : SrAt K H a k) : SrAt K H' a k := by
  obtain ⟨t, h1, h2⟩ := h
  exact ⟨t, butTup e ho h1, h2.but e ho⟩
theorem FmIn.keep {d c l s F} (e : Same H H') (h : FmIn K H d c l s F) : FmIn K H' d c l s F := by
  obtain ⟨h0, ⟨a1, h1, g1⟩, ⟨a2, h2, g2⟩, ⟨a3, h3, g3⟩⟩ := h
  exact ⟨e _ _ h0, ⟨a1, e _ _ h1, g1.keep fun _ _ z => z.keep e⟩, ⟨a2, e _ _ h2, g2.keep fun _ _ z => z.keep e⟩, ⟨a3, e _ _ h3, g3.keep fun _ _ z => z.keep e⟩⟩
theorem FmAt.keep {a F} (e : Same H H') (h : FmAt K H a F) : FmAt K H' a F := by
  obtain ⟨d, c, l, s, h1, h2⟩ := h
  exact ⟨d, c, l, s, sTup e h1, h2.keep e⟩
end
/-! ### the drawn rows -/
def RowsAt (H : Hp) (r : Addr) : Prop := ∃ ns : List Int, H r = some (.lst (ns.map V.int)) ∧ ns.length = 26
theorem RowsAt.lst {H : Hp} {r : Addr} (h : RowsAt H r) : ∃ xs, H r = some (.lst xs) := by
  obtain ⟨ns, h, _⟩ := h
  exact ⟨_, h⟩
theorem RowsAt.keep {H H' : Hp} {r : Addr} (e : Same H H') (h : RowsAt H r) : RowsAt H' r := by
  obtain ⟨ns, h, h2⟩ := h
  exact ⟨ns, e _ _ h, h2⟩
theorem RowsAt.but {H H' : Hp} {r o : Addr} (e : But o H H') (n : r ≠ o) (h : RowsAt H r) : RowsAt H' r := by
  obtain ⟨ns, h, h2⟩ := h
  exact ⟨ns, e _ _ n h, h2⟩
theorem But.upd {r : Addr} {H H' : Hp} {p : Addr} {o : HO} (b : But r H H') (h : H p = none) : But r H (upd H' p o) := fun c w hc hw => by
  rw [upd_ne (ne_of_none hw h)]
  exact b c w hc hw
theorem But.free {r : Addr} {H H' : Hp} {p : Addr} (b : But r H H') (hr : p ≠ r) (h : H' p = none) : H p = none := by
  cases e : H p with
  | none => rfl
  | some w => rw [b _ _ hr e] at h; cases h
theorem flat_strs : ∀ ss : List Str, (ss.map V.str).all flatV = true
  | [] => rfl
  | s :: r => by
    show (true && (r.map V.str).all flatV) = true
    rw [flat_strs r]
    rfl
theorem str_get {ss : List Str} {i : Nat} {x : V} (h : (ss.map V.str)[i]? = some x) : ∃ hi : i < ss.length, x = V.str ss[i] := by
  have hi := (List.getElem?_eq_some_iff.mp h).1
  rw [List.length_map] at hi
  refine ⟨hi, ?_⟩
  rw [List.getElem?_map, List.getElem?_eq_getElem hi] at h
  exact (Option.some.inj h).symm
theorem str_at {ss : List Str} {j : Int} (h0 : 0 ≤ j) (h1 : j < (ss.length : Int)) : ∃ z ∈ ss, atI (ss.map V.str) j = some (.str z) := by
  have hi : j.toNat < ss.length := by omega
  exact ⟨ss[j.toNat], List.getElem_mem hi, at_of (j := j.toNat) (by omega) (by rw [List.getElem?_map, List.getElem?_eq_getElem hi]; rfl)⟩
theorem sign_at {z : Str} {j : Int} (h0 : 0 ≤ j) (h1 : j < (z.length : Int)) : ∃ c : Nat, atI z.cps.toList j = some c := by
  have hl : z.cps.toList.length = z.length := (TL.len_tl z).symm
  have e : j = ((j.toNat : Nat) : Int) := by omega
  rw [e]
  exact ⟨_, atI_nat (List.getElem?_eq_getElem (by rw [hl]; omega))⟩
theorem cutS_le {z : Str} {n : Nat} : (cutS z none (some (n : Int))).length ≤ n := by
  rw [TL.len_tl]
  unfold cutS
  show (List.take _ (List.drop _ _)).length ≤ n
  rw [List.length_take, HT.sIx_nat]
  omega
theorem menu_int {xs : List Int} {j : Int} (h0 : 0 ≤ j) (h1 : j < (xs.length : Int)) : ∃ z ∈ xs, atI (xs.map V.int) j = some (.int z) := by
  have hi : j.toNat < xs.length := by omega
  exact ⟨xs[j.toNat], List.getElem_mem hi, at_of (j := j.toNat) (by omega) (by rw [List.getElem?_map, List.getElem?_eq_getElem hi]; rfl)⟩
end Vs

namespace Vs
open PySem PySem.Spec PyProof.Rows L2
/-- a text made of parts -/
def tJoin (ts : List TE) : TE := fun σ H Q => tJs ts Str.empty σ H fun out H1 => Q (.str out) H1
theorem pe_joinedD {X : Cx} {v1 v2 : Expr} {rest : List Expr} {ts : List TE} {pos : Pos} (h : PJ X (v1 :: v2 :: rest) ts) : PE X (.JoinedStr (v1 :: v2 :: rest) pos) (tJoin ts) := pe_joined h
/-! ### the lines of a frame -/
def numW : Option Int → Str
  | some h => toString h
  | none => "none"
def kdLine (k : Kd) : Str := "kind " ++ k.name ++ " " ++ numW (some k.low) ++ " " ++ numW k.high
def devAt (ds : List Str) (d : Int) : Str := ds.getD d.toNat ""
def clHead (ds : List Str) (c : Cl) : Str := "clock " ++ c.name ++ " of " ++ devAt ds c.dev ++ (if c.goes = true then Str.ofString " goes on asleep" else Str.ofString "")
def lkHead (ds : List Str) (c : Lk) : Str := "link " ++ c.name ++ " from " ++ devAt ds c.s ++ " to " ++ devAt ds c.r
def srHead (ds : List Str) (c : Sr) : Str := "source " ++ c.name ++ " at " ++ devAt ds c.dev
def clLines (ds : List Str) (c : Cl) : List Str := clHead ds c :: c.kinds.map kdLine
def lkLines (ds : List Str) (c : Lk) : List Str := lkHead ds c :: c.kinds.map kdLine
def srLines (ds : List Str) (c : Sr) : List Str := srHead ds c :: c.kinds.map kdLine
def dvLine (z : Str) : Str := "device " ++ z
def ftLines (n : Int) : List Str := if n = 0 then [] else ["faults " ++ numW (some n)]
def linesF (F : Fm) : List Str := F.devices.map dvLine ++ F.clocks.flatMap (clLines F.devices) ++ F.links.flatMap (lkLines F.devices) ++ F.sources.flatMap (srLines F.devices) ++ ftLines F.faults
/-- the lines, a line feed behind each -/
def textF (ls : List Str) : Str := ls.foldl (fun (t l : Str) => t ++ l ++ "\n") Str.empty
theorem empty_add (x : Str) : Str.empty ++ x = x := by
  show Str.append _ _ = x
  cases x with
  | mk cs => simp [Str.append, Str.empty]
theorem nil_eq : Str.ofString "" = Str.empty := by decide +kernel
theorem add_empty (x : Str) : x ++ (Str.ofString "" : Str) = x := by
  rw [nil_eq]
  show Str.append _ _ = x
  cases x with
  | mk cs => simp [Str.append, Str.empty]
theorem add_assoc (x y z : Str) : x ++ y ++ z = x ++ (y ++ z) := by
  show Str.append (Str.append _ _) _ = Str.append _ (Str.append _ _)
  simp [Str.append, Array.append_assoc]
theorem numW_len {o : Option Int} (h : ∀ i, o = some i → In18 i) : (numW o).length ≤ 19 := by
  cases o with
  | none => exact (by decide +kernel : (Str.ofString "none").length ≤ 19)
  | some i => exact word_len (h i rfl)
theorem lit_len {s : Str} {n : Nat} (h : s.length = n := by decide +kernel) : s.length = n := h
theorem kdLine_len {k : Kd} (h : k.Ok) : (kdLine k).length ≤ 60 := by
  have h1 := h.nm
  have h2 := numW_len (o := some k.low) fun i e => by cases e; exact h.lo
  have h3 := numW_len h.hi
  have l1 : (Str.ofString "kind ").length = 5 := by decide +kernel
  have l2 : (Str.ofString " ").length = 1 := by decide +kernel
  unfold kdLine
  rw [Str.length_append, Str.length_append, Str.length_append, Str.length_append, Str.length_append, l1, l2]
  omega
theorem devAt_eq {ds : List Str} {d : Int} (h : DevOk ds.length d) : atI (ds.map V.str) d = some (.str (devAt ds d)) ∧ devAt ds d ∈ ds := by
  obtain ⟨h0, h1⟩ := h
  have hi : d.toNat < ds.length := by omega
  have e : devAt ds d = ds[d.toNat] := by
    unfold devAt
    rw [List.getD_eq_getElem?_getD, List.getElem?_eq_getElem hi]
    rfl
  rw [e]
  exact ⟨at_of (j := d.toNat) (by omega) (by rw [List.getElem?_map, List.getElem?_eq_getElem hi]; rfl), List.getElem_mem hi⟩
theorem asleep_len : (Str.ofString " goes on asleep").length = 15 := by decide +kernel
theorem clock_len : (Str.ofString "clock ").length = 6 := by decide +kernel
theorem of_len : (Str.ofString " of ").length = 4 := by decide +kernel
theorem link_len : (Str.ofString "link ").length = 5 := by decide +kernel
theorem from_len : (Str.ofString " from ").length = 6 := by decide +kernel
theorem to_len : (Str.ofString " to ").length = 4 := by decide +kernel
theorem source_len : (Str.ofString "source ").length = 7 := by decide +kernel
theorem at_len : (Str.ofString " at ").length = 4 := by decide +kernel
theorem kind_len : (Str.ofString "kind ").length = 5 := by decide +kernel
theorem device_len : (Str.ofString "device ").length = 7 := by decide +kernel
theorem faults_len : (Str.ofString "faults ").length = 7 := by decide +kernel
theorem empty_len : Str.empty.length = 0 := rfl
theorem clHead_len {ds : List Str} {c : Cl} (hd : ∀ z ∈ ds, z.length ≤ 12) (h : c.Ok ds.length) : (clHead ds c).length ≤ 60 := by
  have h1 := h.nm
  have h2 := hd _ (devAt_eq h.dv).2
  have h3 : (if c.goes = true then (Str.ofString " goes on asleep") else (Str.ofString "")).length ≤ 15 := by
    split
    · rw [asleep_len]; exact Nat.le_refl _
    · decide +kernel
  unfold clHead
  rw [Str.length_append, Str.length_append, Str.length_append, Str.length_append, clock_len, of_len]
  omega
theorem lkHead_len {ds : List Str} {c : Lk} (hd : ∀ z ∈ ds, z.length ≤ 12) (h : c.Ok ds.length) : (lkHead ds c).length ≤ 60 := by
  have h1 := h.nm
  have h2 := hd _ (devAt_eq h.ds).2
  have h3 := hd _ (devAt_eq h.dr).2
  unfold lkHead
  rw [Str.length_append, Str.length_append, Str.length_append, Str.length_append, Str.length_append, link_len, from_len, to_len]
  omega
theorem srHead_len {ds : List Str} {c : Sr} (hd : ∀ z ∈ ds, z.length ≤ 12) (h : c.Ok ds.length) : (srHead ds c).length ≤ 60 := by
  have h1 := h.nm
  have h2 := hd _ (devAt_eq h.dv).2
  unfold srHead
  rw [Str.length_append, Str.length_append, Str.length_append, source_len, at_len]
  omega
/-- lines, each short -/
structure LnOk (ls : List Str) (n : Nat) : Prop where
  len : ls.length ≤ n
  ok : ∀ z ∈ ls, z.length ≤ 60
theorem LnOk.app {a b : List Str} {n m : Nat} (h : LnOk a n) (g : LnOk b m) : LnOk (a ++ b) (n + m) :=
  ⟨by rw [List.length_append]; have := h.len; have := g.len; omega, fun z hz => (List.mem_append.mp hz).elim (h.ok z) (g.ok z)⟩
theorem LnOk.mono {a : List Str} {n m : Nat} (h : LnOk a n) (e : n ≤ m) : LnOk a m := ⟨Nat.le_trans h.len e, h.ok⟩
theorem LnOk.flat {α : Type} {f : α → List Str} {k : Nat} : ∀ {xs : List α}, (∀ x ∈ xs, LnOk (f x) k) → LnOk (xs.flatMap f) (xs.length * k)
  | [], _ => ⟨Nat.zero_le _, fun z h => by simp at h⟩
  | x :: r, h => by
    rw [List.flatMap_cons, List.length_cons, Nat.succ_mul, Nat.add_comm]
    exact (h x List.mem_cons_self).app (LnOk.flat fun y hy => h y (List.mem_cons_of_mem _ hy))
theorem kdLines_ok {ks : List Kd} (h : KsOk ks) : LnOk (ks.map kdLine) 4 := ⟨by rw [List.length_map]; exact h.len, fun z hz => by
  obtain ⟨k, hk, rfl⟩ := List.mem_map.mp hz
  exact kdLine_len (h.ok k hk)⟩
theorem cons_ok {z : Str} {ls : List Str} {n : Nat} (hz : z.length ≤ 60) (h : LnOk ls n) : LnOk (z :: ls) (n + 1) := ⟨by rw [List.length_cons]; have := h.len; omega, fun y hy => by
  rcases List.mem_cons.mp hy with e | e
  · rw [e]; exact hz
  · exact h.ok y e⟩
theorem clLines_ok {ds : List Str} {c : Cl} (hd : ∀ z ∈ ds, z.length ≤ 12) (h : c.Ok ds.length) : LnOk (clLines ds c) 5 := cons_ok (clHead_len hd h) (kdLines_ok h.ks)
theorem lkLines_ok {ds : List Str} {c : Lk} (hd : ∀ z ∈ ds, z.length ≤ 12) (h : c.Ok ds.length) : LnOk (lkLines ds c) 5 := cons_ok (lkHead_len hd h) (kdLines_ok h.ks)
theorem srLines_ok {ds : List Str} {c : Sr} (hd : ∀ z ∈ ds, z.length ≤ 12) (h : c.Ok ds.length) : LnOk (srLines ds c) 5 := cons_ok (srHead_len hd h) (kdLines_ok h.ks)
theorem cls_ok {F : Fm} (h : F.Ok) (i : Nat) : LnOk ((F.clocks.take i).flatMap (clLines F.devices)) 45 := (LnOk.flat (k := 5) fun c hc => clLines_ok h.dn (h.c c (List.mem_of_mem_take hc))).mono (by have := h.cl; rw [List.length_take]; omega)
theorem lks_ok {F : Fm} (h : F.Ok) (i : Nat) : LnOk ((F.links.take i).flatMap (lkLines F.devices)) 45 := (LnOk.flat (k := 5) fun c hc => lkLines_ok h.dn (h.l c (List.mem_of_mem_take hc))).mono (by have := h.ll; rw [List.length_take]; omega)
theorem srs_ok {F : Fm} (h : F.Ok) (i : Nat) : LnOk ((F.sources.take i).flatMap (srLines F.devices)) 45 := (LnOk.flat (k := 5) fun c hc => srLines_ok h.dn (h.s c (List.mem_of_mem_take hc))).mono (by have := h.sl; rw [List.length_take]; omega)
theorem dvs_ok {F : Fm} (h : F.Ok) : LnOk (F.devices.map dvLine) 6 := ⟨by rw [List.length_map]; exact h.dl, fun z hz => by
  obtain ⟨k, hk, rfl⟩ := List.mem_map.mp hz
  have := h.dn k hk
  unfold dvLine
  rw [Str.length_append, device_len]
  omega⟩
theorem flt_in {n : Int} (h0 : 0 ≤ n) (h2 : n ≤ 2) : In18 n := by
  have e : n = ((n.toNat : Nat) : Int) := by omega
  rw [e]
  exact In18.small (by omega)
theorem fts_ok {F : Fm} (h : F.Ok) : LnOk (ftLines F.faults) 1 := by
  unfold ftLines
  split
  · exact ⟨Nat.zero_le _, fun z h => by simp at h⟩
  · refine ⟨Nat.le_refl _, fun z hz => ?_⟩
    rw [List.mem_singleton.mp hz, Str.length_append, faults_len]
    have := numW_len (o := some F.faults) fun i e => by cases e; exact flt_in h.f0 h.f2
    omega
theorem linesF_ok {F : Fm} (h : F.Ok) : LnOk (linesF F) 142 := by
  have h1 := cls_ok h F.clocks.length
  have h2 := lks_ok h F.links.length
  have h3 := srs_ok h F.sources.length
  rw [List.take_length] at h1 h2 h3
  exact (((dvs_ok h).app h1).app h2).app h3 |>.app (fts_ok h)
/-! ### the text -/
theorem textF_snoc (ls : List Str) (l : Str) : textF (ls ++ [l]) = textF ls ++ l ++ "\n" := by
  unfold textF
  rw [List.foldl_append]
  rfl
theorem textF_len {ls : List Str} {n : Nat} (h : LnOk ls n) : (textF ls).length ≤ ls.length * 61 := by
  obtain ⟨_, h⟩ := h
  suffices g : ∀ (ls : List Str) (t : Str), (∀ z ∈ ls, z.length ≤ 60) → (ls.foldl (fun (t l : Str) => t ++ l ++ "\n") t).length ≤ t.length + ls.length * 61 by
    have := g ls Str.empty h
    have e : Str.empty.length = 0 := rfl
    unfold textF
    omega
  intro ls
  induction ls with
  | nil => intro t _; simp
  | cons a r ih =>
    intro t hz
    have h1 := ih (t ++ a ++ "\n") fun z hz' => hz z (List.mem_cons_of_mem _ hz')
    rw [Str.length_append, Str.length_append, nl_len] at h1
    have h2 := hz a List.mem_cons_self
    rw [List.foldl_cons, List.length_cons, Nat.succ_mul]
    omega
/-- join of the lines with their line feeds by nothing -/
theorem join_nil_cons (a : Str) (r : List Str) : Str.join (Str.ofString "") (a :: r) = a ++ Str.join (Str.ofString "") r := by
  cases r with
  | nil =>
    show a = a ++ Str.ofString ""
    rw [add_empty]
  | cons b r =>
    show a ++ Str.ofString "" ++ Str.join (Str.ofString "") (b :: r) = _
    rw [add_empty]
theorem joinF (ls : List Str) : Txt.join (Str.ofString "") (ls.map fun l => l ++ "\n") = textF ls := by
  rw [TL.join_eq]
  suffices g : ∀ (ls : List Str) (t : Str), t ++ Str.join (Str.ofString "") (ls.map fun l => l ++ "\n") = ls.foldl (fun (t l : Str) => t ++ l ++ "\n") t by
    have := g ls Str.empty
    rw [empty_add] at this
    exact this
  intro ls
  induction ls with
  | nil => intro t; exact add_empty t
  | cons a r ih =>
    intro t
    rw [List.map_cons, join_nil_cons, List.foldl_cons, ← ih]
    simp only [add_assoc]
theorem fed_sum {ls : List Str} (h : ∀ z ∈ ls, z.length ≤ 60) : ((ls.map fun l => l ++ Str.ofString "\n").map (·.length)).sum ≤ ls.length * 61 := by
  induction ls with
  | nil => simp
  | cons a r ih =>
    have h1 := ih fun z hz => h z (List.mem_cons_of_mem _ hz)
    have h2 := h a List.mem_cons_self
    rw [List.map_cons, List.map_cons, List.sum_cons, List.length_cons, Nat.succ_mul, Str.length_append, nl_len]
    omega
theorem fed_fit {ls : List Str} {n : Nat} (h : LnOk ls n) (hn : n ≤ 1000) : ((ls.map fun l => l ++ Str.ofString "\n").map (·.length)).sum + (ls.map fun l => l ++ Str.ofString "\n").length * (Str.ofString "").length ≤ 16777216 := by
  have h1 := fed_sum h.ok
  have h2 := h.len
  rw [(by decide +kernel : (Str.ofString "").length = 0)]
  omega
/-! ### the data of a frame -/
def hiP : Option Int → PyData
  | some h => .int h
  | none => .none
def kdP (k : Kd) : PyData := .tuple [.str k.name, .int k.low, hiP k.high]
def ksP (ks : List Kd) : PyData := .tuple (ks.map kdP)
def clP (c : Cl) : PyData := .tuple [.str c.name, .int c.dev, .bool c.goes, ksP c.kinds]
def lkP (c : Lk) : PyData := .tuple [.str c.name, .int c.s, .int c.r, ksP c.kinds]
def srP (c : Sr) : PyData := .tuple [.str c.name, .int c.dev, ksP c.kinds]
section
variable {K : PySem.W.Frag} {H : Hp}
theorem hi_dp (o : Option Int) : Dp K H (hiV o) (hiP o) := by
  cases o with
  | none => exact .non
  | some i => exact .int i
theorem kd_dp {a : Addr} {k : Kd} (h : KdAt K H a k) : Dp K H (.ref a) (kdP k) := .tup h (.cons (.str _) (.cons (.int _) (.cons (hi_dp _) .nil)))
theorem all_dp {α : Type} {P : Addr → α → Prop} {f : α → PyData} (hp : ∀ a x, P a x → Dp K H (.ref a) (f x)) : ∀ {as : List Addr} {xs : List α}, Each P as xs → DpAll K H (as.map V.ref) (xs.map f)
  | [], [], _ => .nil
  | [], _ :: _, h => by cases h.1
  | _ :: _, [], h => by cases h.1
  | a :: as, x :: xs, h => .cons (hp a x (h.2 0 a x rfl rfl)) (all_dp hp ⟨Nat.succ.inj h.1, fun i b y e1 e2 => h.2 (i + 1) b y e1 e2⟩)
theorem ks_dp {a : Addr} {ks : List Kd} (h : KsAt K H a ks) : Dp K H (.ref a) (ksP ks) := by
  obtain ⟨as, h1, h2⟩ := h
  exact .tup h1 (all_dp (fun _ _ z => kd_dp z) h2)
theorem cl_dp {a : Addr} {c : Cl} (h : ClAt K H a c) : Dp K H (.ref a) (clP c) := by
  obtain ⟨t, h1, h2⟩ := h
  exact .tup h1 (.cons (.str _) (.cons (.int _) (.cons (.bl _) (.cons (ks_dp h2) .nil))))
theorem lk_dp {a : Addr} {c : Lk} (h : LkAt K H a c) : Dp K H (.ref a) (lkP c) := by
  obtain ⟨t, h1, h2⟩ := h
  exact .tup h1 (.cons (.str _) (.cons (.int _) (.cons (.int _) (.cons (ks_dp h2) .nil))))
theorem sr_dp {a : Addr} {c : Sr} (h : SrAt K H a c) : Dp K H (.ref a) (srP c) := by
  obtain ⟨t, h1, h2⟩ := h
  exact .tup h1 (.cons (.str _) (.cons (.int _) (.cons (ks_dp h2) .nil)))
end
theorem all_plain {α : Type} {f : α → PyData} (h : ∀ x, (f x).plain = true) : ∀ xs : List α, PyData.plainAll (xs.map f) = true
  | [] => rfl
  | x :: r => by
    show ((f x).plain && PyData.plainAll (r.map f)) = true
    rw [h x, all_plain h r]
    rfl
theorem all_depth {α : Type} {f : α → PyData} {n : Nat} (h : ∀ x, (f x).depth ≤ n) : ∀ xs : List α, PyData.depthAll (xs.map f) ≤ n
  | [] => Nat.zero_le _
  | x :: r => by
    show max (f x).depth (PyData.depthAll (r.map f)) ≤ n
    have := h x
    have := all_depth h r
    omega
theorem hi_plain (o : Option Int) : (hiP o).plain = true := by cases o <;> rfl
theorem kd_plain (k : Kd) : (kdP k).plain = true := by
  show (true && (true && ((hiP k.high).plain && true))) = true
  rw [hi_plain]
  rfl
theorem ks_plain (ks : List Kd) : (ksP ks).plain = true := all_plain kd_plain ks
theorem cl_plain (c : Cl) : (clP c).plain = true := by
  show (true && (true && (true && ((ksP c.kinds).plain && true)))) = true
  rw [ks_plain]
  rfl
theorem lk_plain (c : Lk) : (lkP c).plain = true := by
  show (true && (true && (true && ((ksP c.kinds).plain && true)))) = true
  rw [ks_plain]
  rfl
theorem sr_plain (c : Sr) : (srP c).plain = true := by
  show (true && (true && ((ksP c.kinds).plain && true))) = true
  rw [ks_plain]
  rfl
theorem hi_depth (o : Option Int) : (hiP o).depth ≤ 1 := by cases o <;> simp [hiP, PyData.depth]
theorem kd_depth (k : Kd) : (kdP k).depth ≤ 3 := by
  have := hi_depth k.high
  simp only [kdP, PyData.depth, PyData.depthAll]
  omega
theorem ks_depth (ks : List Kd) : (ksP ks).depth ≤ 5 := by
  have := all_depth kd_depth ks
  simp only [ksP, PyData.depth]
  omega
theorem cl_depth (c : Cl) : (clP c).depth ≤ 8 := by
  have := ks_depth c.kinds
  simp only [clP, PyData.depth, PyData.depthAll]
  omega
theorem lk_depth (c : Lk) : (lkP c).depth ≤ 8 := by
  have := ks_depth c.kinds
  simp only [lkP, PyData.depth, PyData.depthAll]
  omega
theorem sr_depth (c : Sr) : (srP c).depth ≤ 8 := by
  have := ks_depth c.kinds
  simp only [srP, PyData.depth, PyData.depthAll]
  omega
theorem list_depth {α : Type} {f : α → PyData} (h : ∀ x, (f x).depth ≤ 8) (xs : List α) : (PyData.list (xs.map f)).depth ≤ 64 := by
  have := all_depth h xs
  simp only [PyData.depth]
  omega
theorem list_eqv {α : Type} {f : α → PyData} (h : ∀ x, (f x).plain = true) (xs : List α) : PyData.eqv (.list (xs.map f)) (.list (xs.map f)) = true := SeqAt.eqv_refl_plain _ (all_plain h xs)
/-! ### blocks of lines -/
def LnAt (H : Hp) (a : Addr) (ls : List Str) : Prop := H a = some (.lst (ls.map V.str))
def BkAt (H : Hp) (l : Addr) (bs : List (List Str)) : Prop := ∃ as, H l = some (.lst (as.map V.ref)) ∧ Each (LnAt H) as bs ∧ l ∉ as
theorem BkAt.keep {H H' : Hp} {l : Addr} {bs : List (List Str)} (e : Same H H') (h : BkAt H l bs) : BkAt H' l bs := by
  obtain ⟨as, h1, h2, h3⟩ := h
  exact ⟨as, e _ _ h1, h2.keep fun _ _ z => e _ _ z, h3⟩
theorem BkAt.add {H : Hp} {l b : Addr} {bs : List (List Str)} {as : List Addr} {ls : List Str} (h1 : H l = some (.lst (as.map V.ref))) (h2 : Each (LnAt H) as bs) (h3 : l ∉ as) (hb : H b = some (.lst (ls.map V.str))) (n : l ≠ b) :
    BkAt (upd H l (.lst (as.map V.ref ++ [V.ref b]))) l (bs ++ [ls]) := by
  refine ⟨as ++ [b], by rw [upd_same, List.map_append]; rfl, Each.snoc ⟨h2.1, fun i a x e1 e2 => ?_⟩ ?_, fun h => ?_⟩
  · show upd _ _ _ _ = _
    rw [upd_ne fun e => h3 (by rw [← e]; exact List.mem_of_getElem? e1)]
    exact h2.2 i a x e1 e2
  · show upd _ _ _ _ = _
    rw [upd_ne n.symm]
    exact hb
  · rcases List.mem_append.mp h with h | h
    · exact h3 h
    · exact n (List.mem_singleton.mp h)
theorem each_app {α : Type} {P : Addr → α → Prop} {as bs : List Addr} {xs ys : List α} (h : Each P as xs) (g : Each P bs ys) : Each P (as ++ bs) (xs ++ ys) := by
  refine ⟨by rw [List.length_append, List.length_append, h.1, g.1], fun i a x h1 h2 => ?_⟩
  by_cases hi : i < as.length
  · rw [List.getElem?_append_left hi] at h1
    rw [List.getElem?_append_left (by rw [← h.1]; exact hi)] at h2
    exact h.2 i a x h1 h2
  · rw [List.getElem?_append_right (by omega)] at h1
    rw [List.getElem?_append_right (by rw [← h.1]; omega)] at h2
    rw [← h.1] at h2
    exact g.2 _ a x h1 h2
theorem flatten_take {bs : List (List Str)} {i : Nat} {x : List Str} (h : bs[i]? = some x) : (bs.take (i + 1)).flatten = (bs.take i).flatten ++ x := by
  rw [List.take_add_one, h, List.flatten_append]
  simp
theorem take_snoc {α β : Type} {f : α → β} {xs : List α} {i : Nat} {x : α} (h : xs[i]? = some x) : (xs.take (i + 1)).map f = (xs.take i).map f ++ [f x] := by
  rw [List.take_add_one, h, List.map_append]
  rfl
/-- all blocks of a frame -/
def blksF (F : Fm) : List (List Str) := F.clocks.map (clLines F.devices) ++ F.links.map (lkLines F.devices) ++ F.sources.map (srLines F.devices)
theorem blks_flat (F : Fm) : F.devices.map dvLine ++ (blksF F).flatten ++ ftLines F.faults = linesF F := by
  unfold blksF linesF
  simp only [List.flatten_append, List.flatMap_def, List.append_assoc]
theorem flatM_take {α : Type} {f : α → List Str} {xs : List α} {i : Nat} {x : α} (h : xs[i]? = some x) : (xs.take (i + 1)).flatMap f = (xs.take i).flatMap f ++ f x := by
  rw [List.take_add_one, h, List.flatMap_append]
  simp
end Vs

namespace Vs
open PySem PySem.Spec PyProof.Rows L2
/-- a property of a class of the text -/
structure Pr (K : PySem.W.Frag) (C : Addr) (x qual : Str) (st : Stmt) (ps : List Str) (f : Addr) (fd : FuncData) : Prop where
  F : Fun K x qual st f fd
  b : Binds K fd ps []
  m : ∃ p, PropOf K C x p f
theorem pe_propE {X : Cx} {CX : CXT} {k : Nat} {C g : Addr} {f : Str} {fd : FuncData} {ps : List Str} {sp : Sp} {dvs : List V} {ds : List Value} {E : XK} {e : Expr} {pos : Pos} {ta : TE}
    (he : PE X e ta) (c : Cls X.K C) (hp : ∃ p, PropOf X.K C f p g) (F : FnOk X.prog X.w X.K X.mg X.base CX k g fd ps sp) (hr : Room (k + 1) X.A) (hb : Binds X.K fd ps ds) (hd : Vals dvs ds) (hx : Passes CX X.nox E)
    (hab : attributeBase e f X.env (eval e X.env) = eval e X.env) : PE X (.Attribute e f pos) (tProp C sp dvs E ta) := by
  obtain ⟨p, hp⟩ := hp
  exact pe_prop he c hp F hr hb hd hx hab
/-- the beginning stands at aB -/
structure Begin (K : PySem.W.Frag) (mg : Str → Option Value) (aB : Addr) : Prop where
  m : mg "BEGINNING" = some (.ref aB)
  sq : ∀ H, SqT K H aB [.int (-1), .int 0]
theorem vne_int {a b : Int} (c : (!decide (V.int a = V.int b)) = true) : a ≠ b := fun e => by
  rw [e, decide_eq_true rfl] at c
  cases c
/-- the clocks of a device among the first n -/
def ckN (cs : List Cl) (j : Int) : Nat → List Int
  | 0 => []
  | n + 1 => ckN cs j n ++ (match cs[n]? with
    | some c => if c.dev = j then [(n : Int)] else []
    | none => [])
theorem ckN_yes {cs : List Cl} {j : Int} {n : Nat} {c : Cl} (h : cs[n]? = some c) (e : c.dev = j) : ckN cs j (n + 1) = ckN cs j n ++ [(n : Int)] := by
  rw [ckN, h]
  show _ ++ (if c.dev = j then _ else _) = _
  rw [if_pos e]
theorem ckN_no {cs : List Cl} {j : Int} {n : Nat} {c : Cl} (h : cs[n]? = some c) (e : c.dev ≠ j) : ckN cs j (n + 1) = ckN cs j n := by
  rw [ckN, h]
  show _ ++ (if c.dev = j then _ else _) = _
  rw [if_neg e, List.append_nil]
theorem ckN_len (cs : List Cl) (j : Int) : ∀ n, (ckN cs j n).length ≤ n
  | 0 => Nat.le_refl _
  | n + 1 => by
    have h := ckN_len cs j n
    rw [ckN, List.length_append]
    have : (match cs[n]? with
      | some c => if c.dev = j then [(n : Int)] else []
      | none => []).length ≤ 1 := by
      split
      · split
        · exact Nat.le_refl _
        · exact Nat.zero_le _
      · exact Nat.zero_le _
    omega
theorem ints_all {K : PySem.W.Frag} {H : Hp} : ∀ ns : List Int, DpAll K H (ns.map V.int) (ns.map PyData.int)
  | [] => .nil
  | s :: r => .cons (.int s) (ints_all r)
theorem ints_dp {K : PySem.W.Frag} {H : Hp} {a : Addr} {ns : List Int} (h : SqL K H a (ns.map V.int)) : Dp K H (.ref a) (.list (ns.map PyData.int)) := .lst h (ints_all ns)
theorem int_plain (i : Int) : (PyData.int i).plain = true := rfl
theorem int_depth (i : Int) : (PyData.int i).depth ≤ 8 := by simp [PyData.depth]
/-- a frame's four lists as data -/
def frP (F : Fm) : PyData := .list [.list (F.devices.map PyData.str), .list (F.clocks.map clP), .list (F.links.map lkP), .list (F.sources.map srP)]
theorem frP_plain (F : Fm) : (frP F).plain = true := by
  show ((PyData.list (F.devices.map PyData.str)).plain && ((PyData.list (F.clocks.map clP)).plain && ((PyData.list (F.links.map lkP)).plain && ((PyData.list (F.sources.map srP)).plain && true)))) = true
  have h2 : (PyData.list (F.clocks.map clP)).plain = true := all_plain cl_plain F.clocks
  have h3 : (PyData.list (F.links.map lkP)).plain = true := all_plain lk_plain F.links
  have h4 : (PyData.list (F.sources.map srP)).plain = true := all_plain sr_plain F.sources
  rw [strl_plain, h2, h3, h4]
  rfl
theorem frP_depth (F : Fm) : (frP F).depth ≤ 64 := by
  have h1 := strs_depth F.devices
  have h2 := all_depth cl_depth F.clocks
  have h3 := all_depth lk_depth F.links
  have h4 := all_depth sr_depth F.sources
  simp only [frP, PyData.depth, PyData.depthAll]
  omega
theorem frP_dp {K : PySem.W.Frag} {H : Hp} {a d c l s : Addr} {F : Fm} (h : SqL K H a [.ref d, .ref c, .ref l, .ref s]) (f : FmIn K H d c l s F) : Dp K H (.ref a) (frP F) := by
  obtain ⟨hd, ⟨ac, hc, h1⟩, ⟨al, hl, h2⟩, ⟨as, hs, h3⟩⟩ := f
  exact .lst h (.cons (strs_dp (SqL.of hd)) (.cons (.lst (SqL.of hc) (all_dp (fun _ _ z => cl_dp z) h1)) (.cons (.lst (SqL.of hl) (all_dp (fun _ _ z => lk_dp z) h2)) (.cons (.lst (SqL.of hs) (all_dp (fun _ _ z => sr_dp z) h3)) .nil))))
theorem FmIn.but {K : PySem.W.Frag} {H H' : Hp} {o d c l s : Addr} {xs : List V} {F : Fm} (e : But o H H') (ho : H o = some (.lst xs)) (nd : d ≠ o) (nc : c ≠ o) (nl : l ≠ o) (ns : s ≠ o) (h : FmIn K H d c l s F) : FmIn K H' d c l s F := by
  obtain ⟨h0, ⟨a1, h1, g1⟩, ⟨a2, h2, g2⟩, ⟨a3, h3, g3⟩⟩ := h
  exact ⟨e _ _ nd h0, ⟨a1, e _ _ nc h1, g1.keep fun _ _ z => z.but e ho⟩, ⟨a2, e _ _ nl h2, g2.keep fun _ _ z => z.but e ho⟩, ⟨a3, e _ _ ns h3, g3.keep fun _ _ z => z.but e ho⟩⟩
end Vs

namespace Vs
open PySem PySem.Spec PyProof.Rows L2

def topS (i : Nat) : Stmt := PySem.Challenge.pw_whensure_k01_parts_are_numbered.main.body.getD i (.Pass ⟨0, 0, 0, 0⟩)
abbrev s__law_draws : Stmt := topS 4
abbrev nm__law_draws : List Str := ["script", "count", "rows", "place", "cell"]
theorem sc__law_draws : FnScope nm__law_draws ["script", "count"] (defScope s__law_draws) := ⟨rfl, rfl, rfl, by decide +kernel, rfl, by decide +kernel, by decide +kernel⟩
abbrev s__law_take : Stmt := topS 5
abbrev nm__law_take : List Str := ["rows", "at", "many", "got"]
theorem sc__law_take : FnScope nm__law_take ["rows", "at", "many"] (defScope s__law_take) := ⟨rfl, rfl, rfl, by decide +kernel, rfl, by decide +kernel, by decide +kernel⟩
abbrev s__law_word : Stmt := topS 7
abbrev nm__law_word : List Str := ["rows", "at", "used", "pool", "signs", "menu", "word", "k", "other"]
theorem sc__law_word : FnScope nm__law_word ["rows", "at", "used", "pool"] (defScope s__law_word) := ⟨rfl, rfl, rfl, by decide +kernel, rfl, by decide +kernel, by decide +kernel⟩
abbrev s__law_number : Stmt := topS 8
abbrev nm__law_number : List Str := ["rows", "at", "least", "most"]
theorem sc__law_number : FnScope nm__law_number ["rows", "at", "least"] (defScope s__law_number) := ⟨rfl, rfl, rfl, by decide +kernel, rfl, by decide +kernel, by decide +kernel⟩
abbrev s__law_kinds : Stmt := topS 9
abbrev nm__law_kinds : List Str := ["rows", "at", "sort", "kinds", "k", "name", "low", "high", "kind"]
theorem sc__law_kinds : FnScope nm__law_kinds ["rows", "at", "sort"] (defScope s__law_kinds) := ⟨rfl, rfl, rfl, by decide +kernel, rfl, by decide +kernel, by decide +kernel⟩
abbrev s__law_counts : Stmt := topS 10
abbrev nm__law_counts : List Str := ["rows", "many", "shape", "counts"]
theorem sc__law_counts : FnScope nm__law_counts ["rows", "many"] (defScope s__law_counts) := ⟨rfl, rfl, rfl, by decide +kernel, rfl, by decide +kernel, by decide +kernel⟩
abbrev s__law_ways : Stmt := topS 11
abbrev nm__law_ways : List Str := ["rows", "many", "pairs", "ahead", "back", "k", "ways", "here", "there"]
theorem sc__law_ways : FnScope nm__law_ways ["rows", "many", "pairs"] (defScope s__law_ways) := ⟨rfl, rfl, rfl, by decide +kernel, rfl, by decide +kernel, by decide +kernel⟩
abbrev s__law_parts : Stmt := topS 12
abbrev nm__law_parts : List Str := ["rows", "many", "devices", "k", "counts", "clocks", "links", "sources", "at", "faults", "name", "goes_on", "way", "clock", "source", "link"]
theorem sc__law_parts : FnScope nm__law_parts ["rows"] (defScope s__law_parts) := ⟨rfl, rfl, rfl, by decide +kernel, rfl, by decide +kernel, by decide +kernel⟩
abbrev s__law_whole : Stmt := topS 6
abbrev nm__law_whole : List Str := ["told"]
theorem sc__law_whole : FnScope nm__law_whole ["told"] (defScope s__law_whole) := ⟨rfl, rfl, rfl, by decide +kernel, rfl, by decide +kernel, by decide +kernel⟩
abbrev s__law_fields : Stmt := topS 13
abbrev nm__law_fields : List Str := ["told", "frame"]
theorem sc__law_fields : FnScope nm__law_fields ["told", "frame"] (defScope s__law_fields) := ⟨rfl, rfl, rfl, by decide +kernel, rfl, by decide +kernel, by decide +kernel⟩
abbrev s_Frame_part_count : Stmt := inClass (topS 2) 1
abbrev nm_Frame_part_count : List Str := ["self"]
theorem sc_Frame_part_count : FnScope nm_Frame_part_count ["self"] (defScope s_Frame_part_count) := ⟨rfl, rfl, rfl, by decide +kernel, rfl, by decide +kernel, by decide +kernel⟩
abbrev s_Frame_link_part : Stmt := inClass (topS 2) 3
abbrev nm_Frame_link_part : List Str := ["self", "link"]
theorem sc_Frame_link_part : FnScope nm_Frame_link_part ["self", "link"] (defScope s_Frame_link_part) := ⟨rfl, rfl, rfl, by decide +kernel, rfl, by decide +kernel, by decide +kernel⟩
abbrev s_Frame_source_part : Stmt := inClass (topS 2) 4
abbrev nm_Frame_source_part : List Str := ["self", "source"]
theorem sc_Frame_source_part : FnScope nm_Frame_source_part ["self", "source"] (defScope s_Frame_source_part) := ⟨rfl, rfl, rfl, by decide +kernel, rfl, by decide +kernel, by decide +kernel⟩
abbrev s__law_numbers : Stmt := topS 14
abbrev nm__law_numbers : List Str := ["told", "frame", "count", "k"]
theorem sc__law_numbers : FnScope nm__law_numbers ["told", "frame"] (defScope s__law_numbers) := ⟨rfl, rfl, rfl, by decide +kernel, rfl, by decide +kernel, by decide +kernel⟩
abbrev s_Frame_clocks_of : Stmt := inClass (topS 2) 2
abbrev nm_Frame_clocks_of : List Str := ["self", "device", "number", "clock"]
theorem sc_Frame_clocks_of : FnScope nm_Frame_clocks_of ["self", "device"] (defScope s_Frame_clocks_of) := ⟨rfl, rfl, rfl, by decide +kernel, rfl, by decide +kernel, by decide +kernel⟩
abbrev s__law_clocks : Stmt := topS 15
abbrev nm__law_clocks : List Str := ["told", "frame", "device", "due", "k", "got"]
theorem sc__law_clocks : FnScope nm__law_clocks ["told", "frame"] (defScope s__law_clocks) := ⟨rfl, rfl, rfl, by decide +kernel, rfl, by decide +kernel, by decide +kernel⟩
abbrev s_Frame___init__ : Stmt := inClass (topS 2) 0
abbrev nm_Frame___init__ : List Str := ["self", "devices", "clocks", "links", "sources", "faults"]
theorem sc_Frame___init__ : FnScope nm_Frame___init__ ["self", "devices", "clocks", "links", "sources", "faults"] (defScope s_Frame___init__) := ⟨rfl, rfl, rfl, by decide +kernel, rfl, by decide +kernel, by decide +kernel⟩
abbrev s_law : Stmt := topS 16
abbrev nm_law : List Str := ["script", "rows", "frame", "given", "told", "other"]
theorem sc_law : FnScope nm_law ["script"] (defScope s_law) := ⟨rfl, rfl, rfl, by decide +kernel, rfl, by decide +kernel, by decide +kernel⟩
/-- what the top has made of the class -/
structure Ck_Frame (K : PySem.W.Frag) (mg : Str → Option Value) (C : Addr) : Prop where
  cl : Cls K C
  mg : mg "Frame" = some (.ref C)
  n_devices : NoAttr K C "devices"
  n_clocks : NoAttr K C "clocks"
  n_links : NoAttr K C "links"
  n_sources : NoAttr K C "sources"
  n_faults : NoAttr K C "faults"
/-- its attributes -/
def ff_Frame (v_devices v_clocks v_links v_sources v_faults : V) : List (Str × V) := putF "faults" v_faults (putF "sources" v_sources (putF "links" v_links (putF "clocks" v_clocks (putF "devices" v_devices ([])))))
theorem lk_Frame_devices {v_devices v_clocks v_links v_sources v_faults : V} : (ff_Frame v_devices v_clocks v_links v_sources v_faults).lookup ("devices" : Str) = some v_devices := by
  unfold ff_Frame; rw [lookup_putF, if_neg (by decide +kernel : ¬ (("devices" : Str) = "faults"))]; rw [lookup_putF, if_neg (by decide +kernel : ¬ (("devices" : Str) = "sources"))]; rw [lookup_putF, if_neg (by decide +kernel : ¬ (("devices" : Str) = "links"))]; rw [lookup_putF, if_neg (by decide +kernel : ¬ (("devices" : Str) = "clocks"))]; rw [lookup_putF, if_pos rfl]
theorem lk_Frame_clocks {v_devices v_clocks v_links v_sources v_faults : V} : (ff_Frame v_devices v_clocks v_links v_sources v_faults).lookup ("clocks" : Str) = some v_clocks := by
  unfold ff_Frame; rw [lookup_putF, if_neg (by decide +kernel : ¬ (("clocks" : Str) = "faults"))]; rw [lookup_putF, if_neg (by decide +kernel : ¬ (("clocks" : Str) = "sources"))]; rw [lookup_putF, if_neg (by decide +kernel : ¬ (("clocks" : Str) = "links"))]; rw [lookup_putF, if_pos rfl]
theorem lk_Frame_links {v_devices v_clocks v_links v_sources v_faults : V} : (ff_Frame v_devices v_clocks v_links v_sources v_faults).lookup ("links" : Str) = some v_links := by
  unfold ff_Frame; rw [lookup_putF, if_neg (by decide +kernel : ¬ (("links" : Str) = "faults"))]; rw [lookup_putF, if_neg (by decide +kernel : ¬ (("links" : Str) = "sources"))]; rw [lookup_putF, if_pos rfl]
theorem lk_Frame_sources {v_devices v_clocks v_links v_sources v_faults : V} : (ff_Frame v_devices v_clocks v_links v_sources v_faults).lookup ("sources" : Str) = some v_sources := by
  unfold ff_Frame; rw [lookup_putF, if_neg (by decide +kernel : ¬ (("sources" : Str) = "faults"))]; rw [lookup_putF, if_pos rfl]
theorem lk_Frame_faults {v_devices v_clocks v_links v_sources v_faults : V} : (ff_Frame v_devices v_clocks v_links v_sources v_faults).lookup ("faults" : Str) = some v_faults := by
  unfold ff_Frame; rw [lookup_putF, if_pos rfl]
theorem no_Frame {v_devices v_clocks v_links v_sources v_faults : V} {m : Str} (h_devices : ¬ m = "devices" := by decide +kernel) (h_clocks : ¬ m = "clocks" := by decide +kernel) (h_links : ¬ m = "links" := by decide +kernel) (h_sources : ¬ m = "sources" := by decide +kernel) (h_faults : ¬ m = "faults" := by decide +kernel) : (ff_Frame v_devices v_clocks v_links v_sources v_faults).lookup m = none := by
  unfold ff_Frame; rw [lookup_putF, if_neg h_faults]; rw [lookup_putF, if_neg h_sources]; rw [lookup_putF, if_neg h_links]; rw [lookup_putF, if_neg h_clocks]; rw [lookup_putF, if_neg h_devices]; rfl
section
variable {P : Program} {w : World} {K : PySem.W.Frag} {mg : Str → Option Value} {base : Heap}
def sp__law_draws (K : PySem.W.Frag) : Sp := fun vs H Q _ => ∃ (a : Addr) (ns : List Int) (c : Int), vs = [.ref a, .int c] ∧ SqL K H a (ns.map V.int) ∧ 0 ≤ c ∧ c ≤ 100 ∧ ∀ (p : Addr) (H' : Hp) (rs : List Int), Same H H' → H p = none → H' p = some (.lst (rs.map V.int)) → rs.length = c.toNat → Q (.ref p) H'
theorem ok__law_draws {f : Addr} {fd : FuncData} (D : Df K mg "_law_draws" s__law_draws ["script", "count"] f fd) (T : Txt K mg) : FnOk P w K mg base CX0 1 f fd ["script", "count"] (sp__law_draws K) := by
  refine D.F.ok sc__law_draws (fun vs H Q E h => ?_) (fun cdv A outer s H vs Q E hr h => ?_)
  · obtain ⟨a, ns, c, rfl, _⟩ := h
    rfl
  obtain ⟨a, ns, c, rfl, hS, h0, h1, q⟩ := h
  refine ⟨_, (pss_cons (ps_set (i := 2) sc__law_draws.nd rfl (Or.inl rfl) (pe_lst pa_nil))
    (pss_cons (ps_for PassesOwn.never rfl (pi_range1 rfl T.range (pa_cons (pv 1) pa_nil)) (pg_name (i := 3) sc__law_draws.nd rfl (Or.inl rfl))
      (pss_cons (ps_set (i := 4) sc__law_draws.nd rfl (Or.inl rfl) pe_int)
    (C8.pss_cut (ps_if (pt_cmpR op_lt (pv 3) (pe_callB call_len_seq rfl T.len PySem.boot_len (pa_cons (pv 0) pa_nil)) (nomark _))
      (pss_one (ps_set (i := 4) sc__law_draws.nd rfl (Or.inl rfl) (pe_callTy call_int1 rfl T.int (by decide +kernel) (pa_cons (pe_ix ix_list (pv 0) (pv 3) (fun _ _ => rfl)) pa_nil))))
      pss_nil)
    (C8.pss_cut (ps_if (pt_cmpR op_lt (pv 4) pe_int (nomark _))
      (pss_one (ps_set (i := 4) sc__law_draws.nd rfl (Or.inl rfl) (pe_op op_sub pe_int (pe_op op_mul pe_int (pv 4)))))
      pss_nil)
    (C8.pss_cut (ps_if (pt_cmpR op_lt (pv 4) pe_int (nomark _))
      (pss_cons (ps_set (i := 4) sc__law_draws.nd rfl (Or.inl rfl) (pe_op op_mod (pe_callTy call_int1 rfl T.int (by decide +kernel) (pa_cons (pe_op op_add (pe_op op_mul (pe_op op_add (pe_op op_add (pv 4) (pe_op op_mul pe_int (pv 3))) pe_int) pe_int) (pe_op op_mul (pe_op op_mul (pv 3) (pv 3)) pe_int)) pa_nil)) pe_int))
    (pss_one (ps_set (i := 4) sc__law_draws.nd rfl (Or.inl rfl) (pe_op op_mod (pe_callTy call_int1 rfl T.int (by decide +kernel) (pa_cons (pe_op op_add (pe_op op_mul (pv 4) pe_int) pe_int) pa_nil)) pe_int))))
      pss_nil)
    (pss_one (ps_expr (pe_bm PySem.F.plainAttrs_list PySem.F.slot_list_append PySem.F.type_list_append mt_append (pv 2) (pa_cons (pv 4) pa_nil)))))))))
    (pss_one (ps_ret (pv 2))))), ?_⟩
  refine ⟨(by show 0 ≤ sizeLine; decide), fun p hp => ?_⟩
  refine ⟨_, rfl, _, rfl, by omega, by omega, for_range (lo := 0) (n := c.toNat) (fun i σ H' => ∃ k v, ∃ rs : List Int, σ = [some (.ref a), some (.int c), some (.ref p), k, v] ∧ Same H H' ∧ H' p = some (.lst (rs.map V.int)) ∧ rs.length = i) ⟨none, none, [], rfl, same_upd hp, upd_same, rfl⟩ ?_ ?_⟩
  · rintro i σ H' hi ⟨k, v, rs, rfl, sm, ep, hl⟩
    have hi' : i ≤ 100 := by omega
    refine ⟨fun σ H2 => ∃ c2 : Int, σ = [some (.ref a), some (.int c), some (.ref p), some (.int (0 + (i : Int))), some (.int c2)] ∧ H2 = H', ?_, ?_⟩
    · refine ⟨_, rfl, _, rfl, _, _, rfl, .inl (sm.seq hS), _, _, rfl, rfl, _, rfl, ite2 (fun c' => ?_) (fun c' => ⟨_, rfl, rfl⟩)⟩
      have c2 := of_decide_eq_true c'
      rw [List.length_map] at c2
      exact ⟨_, rfl, _, rfl, _, _, _, _, rfl, rfl, sm.seq hS, at_of (j := i) (v := V.int (ns[i]'(by omega))) (by omega) (by rw [List.getElem?_map, List.getElem?_eq_getElem (by omega)]; rfl), .inl ⟨_, rfl, _, rfl, rfl⟩⟩
    rintro σ H2 ⟨c2, rfl, rfl⟩
    refine ⟨fun σ H3 => ∃ c2 : Int, σ = [some (.ref a), some (.int c), some (.ref p), some (.int (0 + (i : Int))), some (.int c2)] ∧ H3 = H2, ?_, ?_⟩
    · refine ⟨_, rfl, _, _, rfl, rfl, _, rfl, ite2 (fun c' => ?_) (fun c' => ⟨_, rfl, rfl⟩)⟩
      exact ⟨_, rfl, _, _, rfl, rfl, (.inl (by decide)), _, _, rfl, rfl, _, rfl, rfl⟩
    rintro σ H3 ⟨c3, rfl, rfl⟩
    refine ⟨fun σ H4 => ∃ c2 : Int, σ = [some (.ref a), some (.int c), some (.ref p), some (.int (0 + (i : Int))), some (.int c2)] ∧ H4 = H3, ?_, ?_⟩
    · refine ⟨_, rfl, _, _, rfl, rfl, _, rfl, ite2 (fun c' => ?_) (fun c' => ⟨_, rfl, rfl⟩)⟩
      refine ⟨_, rfl, _, rfl, _, _, rfl, rfl, (.inl (by decide)), _, _, rfl, rfl, _, _, rfl, rfl, _, _, rfl, rfl, (.inr (by decide)), _, rfl, _, rfl, _, _, rfl, rfl, (.inl ⟨by omega, by omega⟩), _, _, rfl, rfl, (.inr (by decide)), _, _, rfl, rfl, .inl ⟨_, rfl, _, _, rfl, rfl, (posJ rfl), ?_⟩⟩
      exact ⟨_, rfl, _, _, rfl, rfl, (.inr (by decide)), _, _, rfl, rfl, .inl ⟨_, rfl, _, _, rfl, rfl, (posJ rfl), _, rfl, rfl⟩⟩
    rintro σ H4 ⟨c4, rfl, rfl⟩
    refine ⟨_, rfl, .inl ⟨rfl, _, SqL.of ep⟩, _, rfl, _, _, _, rfl, rfl, ep, by rw [List.length_map, hl]; exact sizes' (by omega), ?_⟩
    refine ⟨_, _, rs ++ [c4], rfl, fun b u h => ?_, by rw [upd_same, List.map_append]; rfl, by rw [List.length_append, List.length_singleton, hl]⟩
    rw [upd_ne (ne_of_none h hp)]
    exact sm _ _ h
  · rintro σ H' ⟨k, v, rs, rfl, sm, ep, hl⟩
    exact ⟨_, rfl, q p H' rs sm hp ep hl⟩
def sp__law_take (K : PySem.W.Frag) : Sp := fun vs H Q _ => ∃ (r : Addr) (at_ m : Int), vs = [.ref r, .int at_, .int m] ∧ RowsAt H r ∧ 0 ≤ at_ ∧ at_ ≤ 25 ∧ 0 < m ∧ m ≤ 10 ^ 15 ∧ ∀ (g : Int) (H' : Hp), 0 ≤ g → g < m → But r H H' → RowsAt H' r → Q (.int g) H'
theorem ok__law_take {f : Addr} {fd : FuncData} (D : Df K mg "_law_take" s__law_take ["rows", "at", "many"] f fd) (T : Txt K mg) : FnOk P w K mg base CX0 1 f fd ["rows", "at", "many"] (sp__law_take K) := by
  refine D.F.ok sc__law_take (fun vs H Q E h => ?_) (fun cdv A outer s H vs Q E hr h => ?_)
  · obtain ⟨r, at_, m, rfl, _⟩ := h
    rfl
  obtain ⟨r, at_, m, rfl, ⟨ns, hr1, hl⟩, h0, h1, hm, hm2, q⟩ := h
  refine ⟨_, (pss_cons (ps_set (i := 3) sc__law_take.nd rfl (Or.inl rfl) (pe_op op_modN (pe_callTy call_int1 rfl T.int (by decide +kernel) (pa_cons (pe_ix ix_list (pv 0) (pv 1) (fun _ _ => rfl)) pa_nil)) (pv 2)))
    (pss_cons (ps_asg (pe_op op_fdivW (pe_callTy call_int1 rfl T.int (by decide +kernel) (pa_cons (pe_ix ix_list (pv 0) (pv 1) (fun _ _ => rfl)) pa_nil)) (pv 2)) (pg_sub (pv 0) (pv 1) set_list))
    (pss_one (ps_ret (pv 3))))), ?_⟩
  obtain ⟨j, rfl⟩ : ∃ j : Nat, at_ = (j : Int) := ⟨at_.toNat, by omega⟩
  have hj : j < ns.length := by omega
  have hat : atI (ns.map V.int) (j : Int) = some (.int ns[j]) := at_of (j := j) rfl (by rw [List.getElem?_map, List.getElem?_eq_getElem hj]; rfl)
  refine ⟨_, rfl, _, rfl, _, _, _, _, rfl, rfl, SqL.of hr1, hat, .inl ⟨_, rfl, _, rfl, _, _, rfl, rfl, by omega, ?_⟩⟩
  refine ⟨_, rfl, _, rfl, _, _, _, _, rfl, rfl, SqL.of hr1, hat, .inl ⟨_, rfl, _, rfl, _, _, rfl, rfl, wide_div (b := 60) hm (by omega) (by decide) (by decide), _, rfl, _, rfl, _, _, _, j, rfl, rfl, hr1, ixn (by rw [List.length_map]; exact hj), ?_⟩⟩
  refine ⟨_, rfl, q _ _ (Int.fmod_nonneg_of_pos _ hm) (Int.fmod_lt_of_pos _ hm) But.set ⟨ns.set j (ns[j] / m), ?_, by rw [List.length_set]; exact hl⟩⟩
  rw [upd_same, List.map_set]
def signsS : Str := Str.ofString "abcdefghijklmnopqrstuvwxyz0123456789"
theorem signs_len : (Str.ofString "abcdefghijklmnopqrstuvwxyz0123456789").length = 36 := by decide +kernel
def menu8 : List Str := ["device", "clock", "link", "source", "kind", "faults", "of", "none"]
theorem menu8_len : ∀ z ∈ menu8, 1 ≤ z.length ∧ z.length ≤ 12 := by decide +kernel
theorem one_len (c : Nat) : (⟨#[c]⟩ : Str).length = 1 := rfl
def sp__law_word (K : PySem.W.Frag) : Sp := fun vs H Q _ => ∃ (r u p : Addr) (at_ : Int) (us ps : List Str), vs = [.ref r, .int at_, .ref u, .ref p] ∧ RowsAt H r ∧ 0 ≤ at_ ∧ at_ ≤ 25 ∧ H u = some (.lst (us.map V.str)) ∧ H p = some (.lst (ps.map V.str)) ∧ u ≠ r ∧ p ≠ r ∧ ps.length ≤ 100 ∧ (∀ z ∈ ps, 1 ≤ z.length ∧ z.length ≤ 12) ∧
  ∀ (z : Str) (H' : Hp), But r H H' → RowsAt H' r → 1 ≤ z.length → z.length ≤ 12 → Q (.str z) H'
theorem ok__law_word {f : Addr} {fd : FuncData} (D : Df K mg "_law_word" s__law_word ["rows", "at", "used", "pool"] f fd) (T : Txt K mg) {f__law_take : Addr} {fd__law_take : FuncData} (D__law_take : Df K mg "_law_take" s__law_take ["rows", "at", "many"] f__law_take fd__law_take) (G__law_take : FnOk P w K mg base CX0 1 f__law_take fd__law_take ["rows", "at", "many"] (sp__law_take K)) : FnOk P w K mg base CX0 2 f fd ["rows", "at", "used", "pool"] (sp__law_word K) := by
  refine D.F.ok sc__law_word (fun vs H Q E h => ?_) (fun cdv A outer s H vs Q E hr h => ?_)
  · obtain ⟨r, u, p, at_, us, ps, rfl, _⟩ := h
    rfl
  obtain ⟨r, u, p, at_, us, ps, rfl, hrw, h0, h25, hu, hp, nur, npr, hpl, hps, q⟩ := h
  refine ⟨_, (pss_cons (ps_set (i := 4) sc__law_word.nd rfl (Or.inl rfl) pe_str)
    (pss_cons (ps_set (i := 5) sc__law_word.nd rfl (Or.inl rfl) (pe_op op_cat (pe_lst (pa_cons pe_str (pa_cons pe_str (pa_cons pe_str (pa_cons pe_str (pa_cons pe_str (pa_cons pe_str (pa_cons pe_str (pa_cons pe_str pa_nil))))))))) (pv 3)))
    (pss_cons (ps_set (i := 6) sc__law_word.nd rfl (Or.inl rfl) (pe_ix ix_str (pv 4) (pe_call G__law_take (hr.mono (by decide)) rfl D__law_take.m D__law_take.F.kp D__law_take.b .nil pass0 (pa_cons (pv 0) (pa_cons (pv 1) (pa_cons pe_int pa_nil)))) (fun _ _ => rfl)))
    (C8.pss_cut (ps_if (pt_cmpR op_eq (pe_call G__law_take (hr.mono (by decide)) rfl D__law_take.m D__law_take.F.kp D__law_take.b .nil pass0 (pa_cons (pv 0) (pa_cons (pv 1) (pa_cons pe_int pa_nil)))) pe_int (nomark _))
      (pss_one (ps_set (i := 6) sc__law_word.nd rfl (Or.inl rfl) (pe_ix ix_list (pv 5) (pe_call G__law_take (hr.mono (by decide)) rfl D__law_take.m D__law_take.F.kp D__law_take.b .nil pass0 (pa_cons (pv 0) (pa_cons (pv 1) (pa_cons (pe_callB call_len_seq rfl T.len PySem.boot_len (pa_cons (pv 5) pa_nil)) pa_nil)))) (fun _ _ => rfl))))
      (pss_one (ps_for PassesOwn.never rfl (pi_range1 rfl T.range (pa_cons (pe_ix ix_tup (pe_tup (pa_cons pe_int (pa_cons pe_int (pa_cons pe_int (pa_cons pe_int (pa_cons pe_int (pa_cons pe_int pa_nil))))))) (pe_call G__law_take (hr.mono (by decide)) rfl D__law_take.m D__law_take.F.kp D__law_take.b .nil pass0 (pa_cons (pv 0) (pa_cons (pv 1) (pa_cons pe_int pa_nil)))) (fun _ _ => rfl)) pa_nil)) (pg_name (i := 7) sc__law_word.nd rfl (Or.inl rfl))
      (pss_one (ps_set (i := 6) sc__law_word.nd rfl (Or.inl rfl) (pe_op op_add_str (pv 6) (pe_ix ix_str (pv 4) (pe_call G__law_take (hr.mono (by decide)) rfl D__law_take.m D__law_take.F.kp D__law_take.b .nil pass0 (pa_cons (pv 0) (pa_cons (pv 1) (pa_cons pe_int pa_nil)))) (fun _ _ => rfl))))))))
    (pss_cons (ps_if (pt_cmpR op_notIn_seq (pv 6) (pv 2) (by rfl))
      (pss_one (ps_ret (pv 6)))
      pss_nil)
    (pss_cons (ps_for PassesOwn.never rfl (pi_range1 rfl T.range (pa_cons pe_int pa_nil)) (pg_name (i := 7) sc__law_word.nd rfl (Or.inl rfl))
      (pss_cons (ps_set (i := 8) sc__law_word.nd rfl (Or.inl rfl) (pe_op op_add_str (pe_slice sl_str (pv 6) po_none (po_some pe_int)) (pe_ix ix_str (pv 4) (pe_op op_add pe_int (pv 7)) (fun _ _ => rfl))))
    (pss_one (ps_if (pt_cmpR op_notIn_seq (pv 8) (pv 2) (by rfl))
      (pss_one (ps_ret (pv 8)))
      pss_nil))))
    (pss_one (ps_ret (pv 6))))))))), ?_⟩
  refine ⟨(by show 8 ≤ sizeLine; decide), fun m1 n1 => ?_⟩
  have s1 : Same H (upd H m1 (.lst (menu8.map V.str))) := same_upd n1
  have e1 : (upd H m1 (.lst (menu8.map V.str))) m1 = some (.lst (menu8.map V.str)) := upd_same
  refine ⟨_, rfl, _, _, _, _, rfl, rfl, e1, s1 _ _ hp, sizes (by rw [List.length_map, List.length_map]; show 8 + _ ≤ _; omega), fun m n2 => ?_⟩
  have s2 : Same (upd H m1 (.lst (menu8.map V.str))) (upd (upd H m1 (.lst (menu8.map V.str))) m (.lst (menu8.map V.str ++ ps.map V.str))) := same_upd n2
  have e2 : (upd (upd H m1 (.lst (menu8.map V.str))) m (.lst (menu8.map V.str ++ ps.map V.str))) m = some (.lst ((menu8 ++ ps).map V.str)) := by rw [upd_same, List.map_append]
  have s02 := s1.trans s2
  have hrw2 := hrw.keep s02
  have nmr : m ≠ r := by
    obtain ⟨xs, hx⟩ := hrw.lst
    exact (ne_of_none (s1 _ _ hx) n2).symm
  have b2 := But.of (o := r) s02
  refine ⟨_, rfl, _, rfl, _, rfl, r, at_, 26, rfl, hrw2, h0, h25, by decide, by decide, fun g H3 g0 g1 b3 rw3 => ?_⟩
  obtain ⟨ch, hch⟩ := sign_at (z := Str.ofString "abcdefghijklmnopqrstuvwxyz0123456789") g0 (by rw [signs_len]; omega)
  refine ⟨_, _, ch, rfl, rfl, by rw [signs_len]; exact sizes (by decide), hch, ?_⟩
  have e3 := b3 _ _ nmr e2
  have b03 := b2.trans b3
  refine ⟨fun σ H' => ∃ (z : Str) (k : Option V), σ = [some (.ref r), some (.int at_), some (.ref u), some (.ref p), some (.str (Str.ofString "abcdefghijklmnopqrstuvwxyz0123456789")), some (.ref m), some (.str z), k, none] ∧ But r H H' ∧ RowsAt H' r ∧ 1 ≤ z.length ∧ z.length ≤ 12, ?_, ?_⟩
  · refine ⟨_, rfl, _, rfl, r, at_, 6, rfl, rw3, h0, h25, by decide, by decide, fun g2 H4 _ _ b4 rw4 => ⟨rfl, _, rfl, ite2 (fun c => ?_) (fun c => ?_)⟩⟩
    · have e4 := b4 _ _ nmr e3
      have hml : (((menu8 ++ ps).map V.str).length : Int) ≤ 108 := by rw [List.length_map, List.length_append, show menu8.length = 8 from rfl]; omega
      have hml2 : 0 < (((menu8 ++ ps).map V.str).length : Int) := by rw [List.length_map, List.length_append, show menu8.length = 8 from rfl]; omega
      refine ⟨_, rfl, _, rfl, _, rfl, _, rfl, _, _, rfl, .inl (SqL.of e4), r, at_, _, rfl, rw4, h0, h25, hml2, by omega, fun g3 H5 g30 g31 b5 rw5 => ?_⟩
      rw [List.length_map] at g31
      obtain ⟨z, hz, hat⟩ := str_at g30 g31
      have hzl : 1 ≤ z.length ∧ z.length ≤ 12 := by
        rcases List.mem_append.mp hz with h | h
        · exact menu8_len z h
        · exact hps z h
      exact ⟨_, _, _, _, rfl, rfl, SqL.of (b5 _ _ nmr e4), hat, z, none, rfl, b03.trans (b4.trans b5), rw5, hzl.1, hzl.2⟩
    · refine ⟨(by show 6 ≤ sizeLine; decide), fun t nt => ?_⟩
      have s5 : Same H4 (upd H4 t (.tup (([0, 0, 1, 2, 10, 11] : List Int).map V.int))) := same_upd nt
      have e5 : (upd H4 t (.tup (([0, 0, 1, 2, 10, 11] : List Int).map V.int))) t = some (.tup (([0, 0, 1, 2, 10, 11] : List Int).map V.int)) := upd_same
      have b05 := b03.trans (b4.trans (But.of s5))
      have rw5 := rw4.keep s5
      refine ⟨_, rfl, _, rfl, r, at_, 6, rfl, rw5, h0, h25, by decide, by decide, fun g3 H6 g30 g31 b6 rw6 => ?_⟩
      obtain ⟨xs, hx⟩ := rw5.lst
      obtain ⟨n, hn, hat⟩ := menu_int (xs := [0, 0, 1, 2, 10, 11]) g30 (by simpa using g31)
      have hnn : 0 ≤ n ∧ n ≤ 11 := by
        simp only [List.mem_cons, List.not_mem_nil, or_false] at hn
        omega
      refine ⟨_, _, _, _, rfl, rfl, butTup b6 hx (SqT.of e5), hat, _, rfl, by omega, by omega, for_range (lo := 0) (n := n.toNat) (fun i σ H' => ∃ (z : Str) (k : Option V), σ = [some (.ref r), some (.int at_), some (.ref u), some (.ref p), some (.str (Str.ofString "abcdefghijklmnopqrstuvwxyz0123456789")), some (.ref m), some (.str z), k, none] ∧ But r H H' ∧ RowsAt H' r ∧ z.length = 1 + i) ⟨⟨#[ch]⟩, none, rfl, b05.trans b6, rw6, rfl⟩ ?_ ?_⟩
      · rintro i σ H' hi ⟨z, k, rfl, b7, rw7, hz⟩
        refine ⟨_, rfl, _, rfl, _, rfl, _, rfl, r, at_, 36, rfl, rw7, h0, h25, by decide, by decide, fun g4 H8 g40 g41 b8 rw8 => ?_⟩
        obtain ⟨c2, hc2⟩ := sign_at (z := Str.ofString "abcdefghijklmnopqrstuvwxyz0123456789") g40 (by rw [signs_len]; omega)
        refine ⟨_, _, c2, rfl, rfl, by rw [signs_len]; exact sizes (by decide), hc2, _, _, rfl, rfl, sizes (by rw [one_len]; omega), _, _, rfl, b7.trans b8, rw8, by rw [Str.length_append, one_len, hz]; omega⟩
      · rintro σ H' ⟨z, k, rfl, b7, rw7, hz⟩
        exact ⟨z, k, rfl, b7, rw7, by omega, by omega⟩
  rintro σ H4 ⟨z, k, rfl, b4, rw4, hz1, hz12⟩
  have hu4 := b4 _ _ nur hu
  refine ⟨_, rfl, _, rfl, _, _, rfl, .inl (SqL.of hu4), rfl, flat_strs us, _, rfl, ite2 (fun c => ⟨_, rfl, q z H4 b4 rw4 hz1 hz12⟩) (fun c => ?_)⟩
  refine ⟨_, rfl, by decide, by decide, for_range (lo := 0) (n := ((10 : Int)).toNat) (fun i σ H' => ∃ k o, σ = [some (.ref r), some (.int at_), some (.ref u), some (.ref p), some (.str (Str.ofString "abcdefghijklmnopqrstuvwxyz0123456789")), some (.ref m), some (.str z), k, o] ∧ H' = H4) ⟨_, _, rfl, rfl⟩ ?_ ?_⟩
  · rintro i σ H' hi ⟨k, o, rfl, rfl⟩
    have hi' : i < 10 := hi
    obtain ⟨c2, hc2⟩ := sign_at (z := Str.ofString "abcdefghijklmnopqrstuvwxyz0123456789") (j := 26 + (0 + (i : Int))) (by omega) (by rw [signs_len]; omega)
    have hcut := cutS_le (z := z) (n := 11)
    refine ⟨_, rfl, _, rfl, _, rfl, sizes (by omega), _, rfl, _, rfl, _, _, rfl, rfl, _, _, c2, rfl, rfl, by rw [signs_len]; exact sizes (by decide), hc2, _, _, rfl, rfl, sizes (by rw [one_len]; exact Nat.le_trans (Nat.add_le_add_right hcut 1) (by decide)), ?_⟩
    have hol : (cutS z none (some ((11 : Nat) : Int)) ++ (⟨#[c2]⟩ : Str)).length ≤ 12 := by rw [Str.length_append, one_len]; omega
    have hol1 : 1 ≤ (cutS z none (some ((11 : Nat) : Int)) ++ (⟨#[c2]⟩ : Str)).length := by rw [Str.length_append, one_len]; omega
    refine ⟨_, rfl, _, rfl, _, _, rfl, .inl (SqL.of hu4), rfl, flat_strs us, _, rfl, ite2 (fun c => ⟨_, rfl, q _ _ b4 rw4 hol1 hol⟩) (fun c => ⟨_, _, rfl, rfl⟩)⟩
  · rintro σ H' ⟨k, o, rfl, rfl⟩
    exact ⟨_, rfl, q z _ b4 rw4 hz1 hz12⟩
def sp__law_number (K : PySem.W.Frag) : Sp := fun vs H Q _ => ∃ (r : Addr) (at_ l : Int), vs = [.ref r, .int at_, .int l] ∧ RowsAt H r ∧ 0 ≤ at_ ∧ at_ ≤ 25 ∧ 0 ≤ l ∧ l ≤ 1 ∧ ∀ (g : Int) (H' : Hp), l ≤ g → g ≤ 999999999999 → But r H H' → RowsAt H' r → Q (.int g) H'
theorem ok__law_number {f : Addr} {fd : FuncData} (D : Df K mg "_law_number" s__law_number ["rows", "at", "least"] f fd) (T : Txt K mg) {f__law_take : Addr} {fd__law_take : FuncData} (D__law_take : Df K mg "_law_take" s__law_take ["rows", "at", "many"] f__law_take fd__law_take) (G__law_take : FnOk P w K mg base CX0 1 f__law_take fd__law_take ["rows", "at", "many"] (sp__law_take K)) : FnOk P w K mg base CX0 2 f fd ["rows", "at", "least"] (sp__law_number K) := by
  refine D.F.ok sc__law_number (fun vs H Q E h => ?_) (fun cdv A outer s H vs Q E hr h => ?_)
  · obtain ⟨r, at_, l, rfl, _⟩ := h
    rfl
  obtain ⟨r, at_, l, rfl, hrw, h0, h25, l0, l1, q⟩ := h
  refine ⟨_, (pss_cons (ps_set (i := 3) sc__law_number.nd rfl (Or.inl rfl) (pe_ix ix_tup (pe_tup (pa_cons pe_int (pa_cons pe_int (pa_cons pe_int pa_nil)))) (pe_call G__law_take (hr.mono (by decide)) rfl D__law_take.m D__law_take.F.kp D__law_take.b .nil pass0 (pa_cons (pv 0) (pa_cons (pv 1) (pa_cons pe_int pa_nil)))) (fun _ _ => rfl)))
    (pss_one (ps_ret (pe_op op_add (pv 2) (pe_call G__law_take (hr.mono (by decide)) rfl D__law_take.m D__law_take.F.kp D__law_take.b .nil pass0 (pa_cons (pv 0) (pa_cons (pv 1) (pa_cons (pe_op op_sub (pe_op op_add (pv 3) pe_int) (pv 2)) pa_nil)))))))), ?_⟩
  refine ⟨(by show 3 ≤ sizeLine; decide), fun t nt => ?_⟩
  have s1 : Same H (upd H t (.tup (([9, 1000, 999999999999] : List Int).map V.int))) := same_upd nt
  have e1 : (upd H t (.tup (([9, 1000, 999999999999] : List Int).map V.int))) t = some (.tup (([9, 1000, 999999999999] : List Int).map V.int)) := upd_same
  have rw1 := hrw.keep s1
  refine ⟨_, rfl, _, rfl, r, at_, 3, rfl, rw1, h0, h25, by decide, by decide, fun g2 H2 g0 g1 b2 rw2 => ?_⟩
  obtain ⟨xs, hx⟩ := rw1.lst
  obtain ⟨n, hn, hat⟩ := menu_int (xs := [9, 1000, 999999999999]) g0 (by simpa using g1)
  have hnn : 9 ≤ n ∧ n ≤ 999999999999 := by
    simp only [List.mem_cons, List.not_mem_nil, or_false] at hn
    omega
  refine ⟨_, _, _, _, rfl, rfl, butTup b2 hx (SqT.of e1), hat, ?_⟩
  refine ⟨_, rfl, _, rfl, _, rfl, _, rfl, _, _, rfl, rfl, _, rfl, _, _, rfl, rfl, r, at_, _, rfl, rw2, h0, h25, by omega, by omega, fun g3 H3 g30 g31 b3 rw3 => ⟨_, _, rfl, rfl, q _ H3 (by omega) (by omega) ((But.of s1).trans (b2.trans b3)) rw3⟩⟩
theorem num18 {g : Int} (h0 : 0 ≤ g) (h1 : g ≤ 999999999999) : In18 g := by
  unfold In18
  omega
def sp__law_kinds (K : PySem.W.Frag) : Sp := fun vs H Q _ => ∃ (r : Addr) (at_ : Int) (so : Str), vs = [.ref r, .int at_, .str so] ∧ RowsAt H r ∧ 0 ≤ at_ ∧ at_ ≤ 25 ∧ ∀ (t : Addr) (H' : Hp) (ks : List Kd), But r H H' → RowsAt H' r → KsAt K H' t ks → KsOk ks → Q (.ref t) H'
theorem ok__law_kinds {f : Addr} {fd : FuncData} (D : Df K mg "_law_kinds" s__law_kinds ["rows", "at", "sort"] f fd) (T : Txt K mg) {f__law_take : Addr} {fd__law_take : FuncData} (D__law_take : Df K mg "_law_take" s__law_take ["rows", "at", "many"] f__law_take fd__law_take) (G__law_take : FnOk P w K mg base CX0 1 f__law_take fd__law_take ["rows", "at", "many"] (sp__law_take K)) {f__law_word : Addr} {fd__law_word : FuncData} (D__law_word : Df K mg "_law_word" s__law_word ["rows", "at", "used", "pool"] f__law_word fd__law_word) (G__law_word : FnOk P w K mg base CX0 2 f__law_word fd__law_word ["rows", "at", "used", "pool"] (sp__law_word K)) {f__law_number : Addr} {fd__law_number : FuncData} (D__law_number : Df K mg "_law_number" s__law_number ["rows", "at", "least"] f__law_number fd__law_number) (G__law_number : FnOk P w K mg base CX0 2 f__law_number fd__law_number ["rows", "at", "least"] (sp__law_number K)) : FnOk P w K mg base CX0 3 f fd ["rows", "at", "sort"] (sp__law_kinds K) := by
  refine D.F.ok sc__law_kinds (fun vs H Q E h => ?_) (fun cdv A outer s H vs Q E hr h => ?_)
  · obtain ⟨r, at_, so, rfl, _⟩ := h
    rfl
  obtain ⟨r, at_, so, rfl, hrw, h0, h25, q⟩ := h
  refine ⟨_, (pss_cons (ps_set (i := 3) sc__law_kinds.nd rfl (Or.inl rfl) (pe_lst pa_nil))
    (pss_cons (ps_for PassesOwn.never rfl (pi_range1 rfl T.range (pa_cons (pe_ix ix_tup (pe_tup (pa_cons pe_int (pa_cons pe_int (pa_cons pe_int (pa_cons pe_int pa_nil))))) (pe_call G__law_take (hr.mono (by decide)) rfl D__law_take.m D__law_take.F.kp D__law_take.b .nil pass0 (pa_cons (pv 0) (pa_cons (pv 1) (pa_cons pe_int pa_nil)))) (fun _ _ => rfl)) pa_nil)) (pg_name (i := 4) sc__law_kinds.nd rfl (Or.inl rfl))
      (pss_cons (ps_set (i := 5) sc__law_kinds.nd rfl (Or.inl rfl) (pe_call G__law_word (hr.mono (by decide)) rfl D__law_word.m D__law_word.F.kp D__law_word.b .nil pass0 (pa_cons (pv 0) (pa_cons (pv 1) (pa_cons (pe_lc (own := [("kind", 8)]) (g := gName 8) (tt := tYes) rfl sc__law_kinds.nd (pi_list (pv 3)) (blkOk_by (own := [("kind", 8)]) (N := nm__law_kinds) (sc := defScope s__law_kinds) (by decide +kernel)) (fun _ _ _ _ _ => (pg_name (i := 8) sc__law_kinds.nd rfl (Or.inl rfl))) (fun _ _ _ _ _ => pts_nil) (fun _ _ _ _ _ => (pe_ix (r := rIxT K) ix_tup (pv 8) pe_int (fun _ _ => rfl)))) (pa_cons (pe_lst pa_nil) pa_nil))))))
    (C8.pss_cut (ps_if (pt_cmpR op_eq (pv 2) pe_str (nomark _))
      (pss_cons (ps_set (i := 6) sc__law_kinds.nd rfl (Or.inl rfl) (pe_call G__law_number (hr.mono (by decide)) rfl D__law_number.m D__law_number.F.kp D__law_number.b .nil pass0 (pa_cons (pv 0) (pa_cons (pv 1) (pa_cons pe_int pa_nil)))))
    (pss_one (ps_set (i := 7) sc__law_kinds.nd rfl (Or.inl rfl) (pe_call G__law_number (hr.mono (by decide)) rfl D__law_number.m D__law_number.F.kp D__law_number.b .nil pass0 (pa_cons (pv 0) (pa_cons (pv 1) (pa_cons pe_int pa_nil)))))))
      (pss_cons (ps_set (i := 6) sc__law_kinds.nd rfl (Or.inl rfl) (pe_call G__law_number (hr.mono (by decide)) rfl D__law_number.m D__law_number.F.kp D__law_number.b .nil pass0 (pa_cons (pv 0) (pa_cons (pv 1) (pa_cons (pe_callTy call_int1 rfl T.int (by decide +kernel) (pa_cons (pe_cmpR op_eq (pv 2) pe_str (nomark _)) pa_nil)) pa_nil)))))
    (pss_cons (ps_set (i := 7) sc__law_kinds.nd rfl (Or.inl rfl) (pe_callB (call_min2 rfl) rfl T.min (by decide +kernel) (pa_cons pe_int (pa_cons (pe_op op_add (pv 6) (pe_call G__law_number (hr.mono (by decide)) rfl D__law_number.m D__law_number.F.kp D__law_number.b .nil pass0 (pa_cons (pv 0) (pa_cons (pv 1) (pa_cons pe_int pa_nil))))) pa_nil))))
    (pss_one (ps_if (PW.pt (pw_and (pt_cmpR op_eq (pv 2) pe_str (nomark _)) (pw_and1 (pt_cmpR op_eq (pe_call G__law_take (hr.mono (by decide)) rfl D__law_take.m D__law_take.F.kp D__law_take.b .nil pass0 (pa_cons (pv 0) (pa_cons (pv 1) (pa_cons pe_int pa_nil)))) pe_int (nomark _)))))
      (pss_one (ps_set (i := 7) sc__law_kinds.nd rfl (Or.inl rfl) pe_non))
      pss_nil)))))
    (pss_one (ps_expr (pe_bm PySem.F.plainAttrs_list PySem.F.slot_list_append PySem.F.type_list_append mt_append (pv 3) (pa_cons (pe_tup (pa_cons (pv 5) (pa_cons (pv 6) (pa_cons (pv 7) pa_nil)))) pa_nil)))))))
    (pss_one (ps_ret (pe_callTy call_tuple_of rfl T.tuple (by decide +kernel) (pa_cons (pv 3) pa_nil)))))), ?_⟩
  refine ⟨(by show 0 ≤ sizeLine; decide), fun kp nk => ⟨(by show 4 ≤ sizeLine; decide), fun t nt => ?_⟩⟩
  have s1 : Same H (upd H kp (.lst [])) := same_upd nk
  have ek : (upd H kp (.lst [])) kp = some (.lst []) := upd_same
  generalize upd H kp (.lst []) = H1 at *
  have s2 : Same H1 (upd H1 t (.tup (([1, 1, 2, 4] : List Int).map V.int))) := same_upd nt
  have e2 : (upd H1 t (.tup (([1, 1, 2, 4] : List Int).map V.int))) t = some (.tup (([1, 1, 2, 4] : List Int).map V.int)) := upd_same
  have rw2 := hrw.keep (s1.trans s2)
  have ek2 := s2 _ _ ek
  have nkr : kp ≠ r := by
    obtain ⟨xs, hx⟩ := hrw.lst
    exact (ne_of_none hx nk).symm
  refine ⟨_, rfl, _, rfl, r, at_, 4, rfl, rw2, h0, h25, by decide, by decide, fun g H3 g0 g1 b3 rw3 => ?_⟩
  obtain ⟨xs, hx⟩ := rw2.lst
  obtain ⟨n, hn, hat⟩ := menu_int (xs := [1, 1, 2, 4]) g0 (by simpa using g1)
  have hnn : 0 ≤ n ∧ n ≤ 4 := by
    simp only [List.mem_cons, List.not_mem_nil, or_false] at hn
    omega
  have b03 : But r H H3 := (But.of (s1.trans s2)).trans b3
  refine ⟨_, _, _, _, rfl, rfl, butTup b3 hx (SqT.of e2), hat, _, rfl, by omega, by omega, for_range (lo := 0) (n := n.toNat) (fun i σ H' => ∃ v4 v5 v6 v7, ∃ (as : List Addr) (ks : List Kd), σ = [some (.ref r), some (.int at_), some (.str so), some (.ref kp), v4, v5, v6, v7, none] ∧ But r H H' ∧ RowsAt H' r ∧ H' kp = some (.lst (as.map V.ref)) ∧ Each (KdAt K H') as ks ∧ (∀ k ∈ ks, k.Ok) ∧ ks.length = i) ⟨none, none, none, none, [], [], rfl, b03, rw3, b3 _ _ nkr ek2, Each.nil, fun k h => by simp at h, rfl⟩ ?_ ?_⟩
  · rintro i σ H' hi ⟨v4, v5, v6, v7, as, ks, rfl, b4, rw4, ek4, hE, hok, hl⟩
    have hi' : i < 4 := by omega
    have hal := hE.1
    have hasl : (as.map V.ref).length = i := by rw [List.length_map]; omega
    -- the names so far
    refine ⟨_, rfl, _, rfl, _, rfl, kp, rfl, ⟨_, SqL.of ek4⟩, fun D hD => lc_list (K := K) (a := kp) (xs := as.map V.ref) (fun j H2 => ∃ us : List Str, Same H' H2 ∧ H2 D = some (.lst (us.map V.str)) ∧ us.length = j) ⟨[], same_upd hD, upd_same, rfl⟩ (fun j H2 _ ⟨_, sm, _⟩ => SqL.of (sm _ _ ek4)) ?_ ?_⟩
    · rintro j x H2 hx ⟨us, sm, eD, hul⟩
      obtain ⟨hjl, rfl⟩ := ref_get hx
      obtain ⟨k, hk1, hk2⟩ := hE.get (List.getElem?_eq_getElem hjl)
      refine ⟨rfl, _, rfl, _, _, _, _, rfl, rfl, (KdAt.keep sm hk2 : SqT K H2 _ _), at_of (j := 0) rfl rfl, _, eD, by rw [List.length_map]; exact sizes' (by omega), us ++ [k.name], fun c w hc => ?_, ?_, by rw [List.length_append, List.length_singleton, hul]⟩
      · rw [upd_ne (ne_of_none hc hD)]
        exact sm _ _ hc
      · rw [upd_same, List.map_append]
        rfl
    rintro H5 ⟨us, s5, eD, hul⟩
    refine ⟨(by show 0 ≤ sizeLine; decide), fun pl npl => ?_⟩
    have s6 : Same H5 (upd H5 pl (.lst (([] : List Str).map V.str))) := same_upd npl
    have e6 : (upd H5 pl (.lst (([] : List Str).map V.str))) pl = some (.lst (([] : List Str).map V.str)) := upd_same
    have s56 := s5.trans s6
    obtain ⟨ys, hy⟩ := rw4.lst
    have nDr : D ≠ r := (ne_of_none hy hD).symm
    have npr : pl ≠ r := (ne_of_none (s5 _ _ hy) npl).symm
    refine ⟨r, D, pl, at_, us, [], rfl, rw4.keep s56, h0, h25, s6 _ _ eD, e6, nDr, npr, by decide, fun z h => by simp at h, fun z H7 b7 rw7 z1 z12 => ?_⟩
    have ek6 := s56 _ _ ek4
    have ek7 := b7 _ _ nkr ek6
    obtain ⟨zs, hz⟩ := (rw4.keep s56).lst
    have hE7 := (hE.keep fun _ _ h => KdAt.keep s56 h).keep fun _ _ h => KdAt.but b7 hz h
    have b07 := (b4.trans (But.of s56)).trans b7
    clear s5 s6 s56 eD e6 b4 ek4 ek6 hE hz
    refine ⟨fun σ H' => ∃ (low : Int) (high : Option Int), σ = [some (.ref r), some (.int at_), some (.str so), some (.ref kp), some (.int (0 + (i : Int))), some (.str z), some (.int low), some (hiV high), none] ∧ But r H7 H' ∧ RowsAt H' r ∧ In18 low ∧ ∀ h, high = some h → In18 h, ?_, ?_⟩
    · refine ⟨_, rfl, rfl, _, rfl, ite2 (fun c => ?_) (fun c => ?_)⟩
      · refine ⟨_, rfl, _, rfl, r, at_, 0, rfl, rw7, h0, h25, by decide, by decide, fun lo H8 l0 l1 b8 rw8 => ?_⟩
        refine ⟨_, rfl, _, rfl, r, at_, 0, rfl, rw8, h0, h25, by decide, by decide, fun hi2 H9 m0 m1 b9 rw9 => ?_⟩
        exact ⟨lo, some hi2, rfl, b8.trans b9, rw9, num18 l0 l1, fun h e => by cases e; exact num18 m0 m1⟩
      · have least : ∀ b : Bool, 0 ≤ (if b then (1 : Int) else 0) ∧ (if b then (1 : Int) else 0) ≤ 1 := fun b => by cases b <;> decide
        refine ⟨_, rfl, _, rfl, _, rfl, rfl, .inr ⟨_, rfl, r, at_, _, rfl, rw7, h0, h25, (least _).1, (least _).2, fun lo H8 l0 l1 b8 rw8 => ?_⟩⟩
        have l00 := Int.le_trans (least _).1 l0
        refine ⟨_, rfl, _, rfl, _, rfl, r, at_, 0, rfl, rw8, h0, h25, by decide, by decide, fun hi2 H9 m0 m1 b9 rw9 => ?_⟩
        have hmin : 0 ≤ (if lo + hi2 < 999999999999 then lo + hi2 else 999999999999) ∧ (if lo + hi2 < 999999999999 then lo + hi2 else (999999999999 : Int)) ≤ 999999999999 := by split <;> omega
        refine ⟨_, _, rfl, rfl, _, _, rfl, ?_⟩
        refine ⟨_, rfl, rfl, _, rfl, ite2 (fun c2 => ?_) (fun c2 => ?_)⟩
        · refine ⟨_, rfl, _, rfl, r, at_, 4, rfl, rw9, h0, h25, by decide, by decide, fun g4 H10 _ _ b10 rw10 => ⟨rfl, _, rfl, ite2 (fun c3 => ?_) (fun c3 => ?_)⟩⟩
          · exact ⟨lo, none, rfl, b8.trans (b9.trans b10), rw10, num18 l00 l1, fun h e => by cases e⟩
          · exact ⟨lo, some _, rfl, b8.trans (b9.trans b10), rw10, num18 l00 l1, fun h e => by cases e; exact num18 hmin.1 hmin.2⟩
        · exact iteF ⟨lo, some _, rfl, b8.trans b9, rw9, num18 l00 l1, fun h e => by cases e; exact num18 hmin.1 hmin.2⟩
    rintro σ H8 ⟨low, high, rfl, b8, rw8, hlo, hhi⟩
    have ek8 := b8 _ _ nkr ek7
    obtain ⟨zs, hz⟩ := rw7.lst
    have hE8 := hE7.keep fun _ _ h => KdAt.but b8 hz h
    refine ⟨_, rfl, .inl ⟨rfl, _, SqL.of ek8⟩, _, rfl, _, rfl, _, rfl, (by show 3 ≤ sizeLine; decide), fun w nw => ?_⟩
    have s9 : Same H8 (upd H8 w (.tup [V.str z, V.int low, hiV high])) := same_upd nw
    have e9 : (upd H8 w (.tup [V.str z, V.int low, hiV high])) w = some (.tup [V.str z, V.int low, hiV high]) := upd_same
    generalize upd H8 w (.tup [V.str z, V.int low, hiV high]) = H9 at *
    have ek9 := s9 _ _ ek8
    have bk : But kp H9 (upd H9 kp (.lst (as.map V.ref ++ [V.ref w]))) := But.set
    have nk0 : H kp = none := nk
    refine ⟨_, _, _, rfl, rfl, ek9, by rw [hasl]; exact sizes' (by omega), _, _, _, _, as ++ [w], ks ++ [⟨z, low, high⟩], rfl, fun c u hc hu => ?_, (rw8.keep s9).but bk nkr.symm, ?_, ?_, fun k hk => ?_, by rw [List.length_append, List.length_singleton, hl]⟩
    · exact bk _ _ (ne_of_none hu nk0) (s9 _ _ (b8 _ _ hc (b07 _ _ hc hu)))
    · rw [upd_same, List.map_append]
      rfl
    · exact ((hE8.keep fun _ _ h => KdAt.keep s9 h).snoc (x := ⟨z, low, high⟩) (SqT.of e9 : SqT K H9 w _)).keep fun _ _ h => KdAt.but bk ek9 h
    · rcases List.mem_append.mp hk with h | h
      · exact hok k h
      · rw [List.mem_singleton.mp h]
        exact ⟨z12, hlo, hhi⟩
  · rintro σ H' ⟨v4, v5, v6, v7, as, ks, rfl, b4, rw4, ek4, hE, hok, hl⟩
    refine ⟨_, rfl, _, _, rfl, .inl ⟨SqL.of ek4, fun w nw => ?_⟩⟩
    have s5 : Same H' (upd H' w (.tup (as.map V.ref))) := same_upd nw
    exact q w _ ks (b4.trans (But.of s5)) (rw4.keep s5) ⟨as, SqT.of upd_same, hE.keep fun _ _ h => KdAt.keep s5 h⟩ ⟨by omega, hok⟩
def sp__law_counts (K : PySem.W.Frag) : Sp := fun vs H Q _ => ∃ (r : Addr) (m : Int), vs = [.ref r, .int m] ∧ RowsAt H r ∧ ∀ (p : Addr) (H' : Hp) (c0 c1 c2 : Int), But r H H' → RowsAt H' r → H p = none → H' p = some (.lst [.int c0, .int c1, .int c2]) → p ≠ r → 0 ≤ c0 → 0 ≤ c1 → 0 ≤ c2 → c0 + 2 * c1 + c2 ≤ 9 → 1 ≤ c0 + c1 + c2 → (m = 1 → c1 = 0) → Q (.ref p) H'
theorem ok__law_counts {f : Addr} {fd : FuncData} (D : Df K mg "_law_counts" s__law_counts ["rows", "many"] f fd) (T : Txt K mg) {f__law_take : Addr} {fd__law_take : FuncData} (D__law_take : Df K mg "_law_take" s__law_take ["rows", "at", "many"] f__law_take fd__law_take) (G__law_take : FnOk P w K mg base CX0 1 f__law_take fd__law_take ["rows", "at", "many"] (sp__law_take K)) : FnOk P w K mg base CX0 2 f fd ["rows", "many"] (sp__law_counts K) := by
  refine D.F.ok sc__law_counts (fun vs H Q E h => ?_) (fun cdv A outer s H vs Q E hr h => ?_)
  · obtain ⟨r, m, rfl, _⟩ := h
    rfl
  obtain ⟨r, m, rfl, hrw, q⟩ := h
  refine ⟨_, (pss_cons (ps_set (i := 2) sc__law_counts.nd rfl (Or.inl rfl) (pe_call G__law_take (hr.mono (by decide)) rfl D__law_take.m D__law_take.F.kp D__law_take.b .nil pass0 (pa_cons (pv 0) (pa_cons pe_int (pa_cons pe_int pa_nil)))))
    (pss_cons (ps_set (i := 3) sc__law_counts.nd rfl (Or.inl rfl) (pe_lst (pa_cons (pe_call G__law_take (hr.mono (by decide)) rfl D__law_take.m D__law_take.F.kp D__law_take.b .nil pass0 (pa_cons (pv 0) (pa_cons pe_int (pa_cons pe_int pa_nil)))) (pa_cons (pe_call G__law_take (hr.mono (by decide)) rfl D__law_take.m D__law_take.F.kp D__law_take.b .nil pass0 (pa_cons (pv 0) (pa_cons pe_int (pa_cons pe_int pa_nil)))) (pa_cons (pe_call G__law_take (hr.mono (by decide)) rfl D__law_take.m D__law_take.F.kp D__law_take.b .nil pass0 (pa_cons (pv 0) (pa_cons pe_int (pa_cons pe_int pa_nil)))) pa_nil)))))
    (C8.pss_cut (ps_if (pt_cmpR op_eq (pv 2) pe_int (nomark _))
      (pss_one (ps_set (i := 3) sc__law_counts.nd rfl (Or.inl rfl) (pe_lst (pa_cons (pe_call G__law_take (hr.mono (by decide)) rfl D__law_take.m D__law_take.F.kp D__law_take.b .nil pass0 (pa_cons (pv 0) (pa_cons pe_int (pa_cons pe_int pa_nil)))) (pa_cons pe_int (pa_cons pe_int pa_nil))))))
      pss_nil)
    (C8.pss_cut (ps_if (pt_cmpR op_eq (pv 2) pe_int (nomark _))
      (pss_one (ps_set (i := 3) sc__law_counts.nd rfl (Or.inl rfl) (pe_lst (pa_cons pe_int (pa_cons pe_int (pa_cons (pe_call G__law_take (hr.mono (by decide)) rfl D__law_take.m D__law_take.F.kp D__law_take.b .nil pass0 (pa_cons (pv 0) (pa_cons pe_int (pa_cons pe_int pa_nil)))) pa_nil))))))
      pss_nil)
    (C8.pss_cut (ps_if (pt_cmpR op_eq (pv 2) pe_int (nomark _))
      (pss_one (ps_set (i := 3) sc__law_counts.nd rfl (Or.inl rfl) (pe_lst (pa_cons pe_int (pa_cons (pe_call G__law_take (hr.mono (by decide)) rfl D__law_take.m D__law_take.F.kp D__law_take.b .nil pass0 (pa_cons (pv 0) (pa_cons pe_int (pa_cons pe_int pa_nil)))) (pa_cons (pe_call G__law_take (hr.mono (by decide)) rfl D__law_take.m D__law_take.F.kp D__law_take.b .nil pass0 (pa_cons (pv 0) (pa_cons pe_int (pa_cons pe_int pa_nil)))) pa_nil))))))
      pss_nil)
    (C8.pss_cut (ps_if (pt_cmpR op_eq (pv 1) pe_int (nomark _))
      (pss_one (ps_asg pe_int (pg_sub (pv 3) pe_int set_list)))
      pss_nil)
    (C8.pss_cut (ps_if (pt_cmpR op_eq (pe_callB (cr_sum rfl) rfl T.sum (by decide +kernel) (pa_cons (pv 3) pa_nil)) pe_int (nomark _))
      (pss_one (ps_asg pe_int (pg_sub (pv 3) pe_int set_list)))
      pss_nil)
    (pss_one (ps_ret (pv 3)))))))))), ?_⟩
  have fresh : ∀ {H1 : Hp} {p : Addr}, But r H H1 → RowsAt H1 r → H1 p = none → H p = none ∧ p ≠ r := fun {H1 p} b w h => by
    obtain ⟨xs, hx⟩ := w.lst
    have hpr : p ≠ r := (ne_of_none hx h).symm
    exact ⟨b.free hpr h, hpr⟩
  have mk : ∀ {H1 : Hp} {p : Addr} {o : HO}, But r H H1 → RowsAt H1 r → H1 p = none → But r H (upd H1 p o) ∧ RowsAt (upd H1 p o) r := fun {H1 p o} b w h => ⟨b.trans (But.of (same_upd h)), w.keep (same_upd h)⟩
  refine ⟨_, rfl, r, 0, 6, rfl, hrw, by decide, by decide, by decide, by decide, fun sp H1 _ _ b1 rw1 => ?_⟩
  refine ⟨_, rfl, r, 0, 4, rfl, rw1, by decide, by decide, by decide, by decide, fun c0 H2 c00 c01 b2 rw2 => ?_⟩
  refine ⟨_, rfl, r, 0, 3, rfl, rw2, by decide, by decide, by decide, by decide, fun c1 H3 c10 c11 b3 rw3 => ?_⟩
  refine ⟨_, rfl, r, 0, 3, rfl, rw3, by decide, by decide, by decide, by decide, fun c2 H4 c20 c21 b4 rw4 => ⟨(by show 3 ≤ sizeLine; decide), fun p np => ?_⟩⟩
  have b04 := b1.trans (b2.trans (b3.trans b4))
  have f4 := fresh b04 rw4 np
  have k4 := mk (o := .lst [V.int c0, V.int c1, V.int c2]) b04 rw4 np
  refine ⟨fun σ H' => ∃ (p : Addr) (c0 c1 c2 : Int), σ = [some (.ref r), some (.int m), some (.int sp), some (.ref p)] ∧ But r H H' ∧ RowsAt H' r ∧ H p = none ∧ H' p = some (.lst [.int c0, .int c1, .int c2]) ∧ p ≠ r ∧ 0 ≤ c0 ∧ 0 ≤ c1 ∧ 0 ≤ c2 ∧ c0 + 2 * c1 + c2 ≤ 9, ?_, ?_⟩
  · refine ⟨_, rfl, rfl, _, rfl, ite2 (fun c => ?_) (fun c => ⟨p, c0, c1, c2, rfl, k4.1, k4.2, f4.1, upd_same, f4.2, c00, c10, c20, by omega⟩)⟩
    refine ⟨_, rfl, r, 0, 10, rfl, k4.2, by decide, by decide, by decide, by decide, fun g H5 g0 g1 b5 rw5 => ⟨(by show 3 ≤ sizeLine; decide), fun p2 np2 => ?_⟩⟩
    have b05 := k4.1.trans b5
    have f5 := fresh b05 rw5 np2
    have k5 := mk (o := .lst [V.int g, V.int 0, V.int 0]) b05 rw5 np2
    exact ⟨p2, g, 0, 0, rfl, k5.1, k5.2, f5.1, upd_same, f5.2, g0, by decide, by decide, by omega⟩
  clear f4 k4 np
  rintro σ H5 ⟨p, c0, c1, c2, rfl, b05, rw5, fp, ep, npr, d0, d1, d2, dd⟩
  refine ⟨fun σ H' => ∃ (p : Addr) (c0 c1 c2 : Int), σ = [some (.ref r), some (.int m), some (.int sp), some (.ref p)] ∧ But r H H' ∧ RowsAt H' r ∧ H p = none ∧ H' p = some (.lst [.int c0, .int c1, .int c2]) ∧ p ≠ r ∧ 0 ≤ c0 ∧ 0 ≤ c1 ∧ 0 ≤ c2 ∧ c0 + 2 * c1 + c2 ≤ 9, ?_, ?_⟩
  · refine ⟨_, rfl, rfl, _, rfl, ite2 (fun c => ?_) (fun c => ⟨p, c0, c1, c2, rfl, b05, rw5, fp, ep, npr, d0, d1, d2, dd⟩)⟩
    refine ⟨_, rfl, r, 0, 10, rfl, rw5, by decide, by decide, by decide, by decide, fun g H6 g0 g1 b6 rw6 => ⟨(by show 3 ≤ sizeLine; decide), fun p2 np2 => ?_⟩⟩
    have b06 := b05.trans b6
    have f6 := fresh b06 rw6 np2
    have k6 := mk (o := .lst [V.int 0, V.int 0, V.int g]) b06 rw6 np2
    exact ⟨p2, 0, 0, g, rfl, k6.1, k6.2, f6.1, upd_same, f6.2, by decide, by decide, g0, by omega⟩
  clear b05 rw5 fp ep npr d0 d1 d2 dd
  rintro σ H5 ⟨p, c0, c1, c2, rfl, b05, rw5, fp, ep, npr, d0, d1, d2, dd⟩
  refine ⟨fun σ H' => ∃ (p : Addr) (c0 c1 c2 : Int), σ = [some (.ref r), some (.int m), some (.int sp), some (.ref p)] ∧ But r H H' ∧ RowsAt H' r ∧ H p = none ∧ H' p = some (.lst [.int c0, .int c1, .int c2]) ∧ p ≠ r ∧ 0 ≤ c0 ∧ 0 ≤ c1 ∧ 0 ≤ c2 ∧ c0 + 2 * c1 + c2 ≤ 9, ?_, ?_⟩
  · refine ⟨_, rfl, rfl, _, rfl, ite2 (fun c => ?_) (fun c => ⟨p, c0, c1, c2, rfl, b05, rw5, fp, ep, npr, d0, d1, d2, dd⟩)⟩
    refine ⟨_, rfl, r, 0, 5, rfl, rw5, by decide, by decide, by decide, by decide, fun g H6 g0 g1 b6 rw6 => ?_⟩
    refine ⟨_, rfl, r, 0, 2, rfl, rw6, by decide, by decide, by decide, by decide, fun g2 H7 g20 g21 b7 rw7 => ⟨(by show 3 ≤ sizeLine; decide), fun p2 np2 => ?_⟩⟩
    have b07 := b05.trans (b6.trans b7)
    have f6 := fresh b07 rw7 np2
    have k6 := mk (o := .lst [V.int 0, V.int g, V.int g2]) b07 rw7 np2
    exact ⟨p2, 0, g, g2, rfl, k6.1, k6.2, f6.1, upd_same, f6.2, by decide, g0, g20, by omega⟩
  clear b05 rw5 fp ep npr d0 d1 d2 dd
  rintro σ H5 ⟨p, c0, c1, c2, rfl, b05, rw5, fp, ep, npr, d0, d1, d2, dd⟩
  refine ⟨fun σ H' => ∃ (p : Addr) (c0 c1 c2 : Int), σ = [some (.ref r), some (.int m), some (.int sp), some (.ref p)] ∧ But r H H' ∧ RowsAt H' r ∧ H p = none ∧ H' p = some (.lst [.int c0, .int c1, .int c2]) ∧ p ≠ r ∧ 0 ≤ c0 ∧ 0 ≤ c1 ∧ 0 ≤ c2 ∧ c0 + 2 * c1 + c2 ≤ 9 ∧ (m = 1 → c1 = 0), ?_, ?_⟩
  · refine ⟨_, rfl, rfl, _, rfl, ite2 (fun c => ?_) (fun c => ⟨p, c0, c1, c2, rfl, b05, rw5, fp, ep, npr, d0, d1, d2, dd, fun h => absurd h (vint_ne c)⟩)⟩
    refine ⟨_, rfl, _, _, _, 1, rfl, rfl, ep, rfl, ?_⟩
    have bp : But p H5 (upd H5 p (.lst ([V.int c0, V.int c1, V.int c2].set 1 (V.int 0)))) := But.set
    exact ⟨p, c0, 0, c2, rfl, fun c w hc hw => bp _ _ (ne_of_none hw fp) (b05 _ _ hc hw), rw5.but bp npr.symm, fp, upd_same, npr, d0, by decide, d2, by omega, fun _ => rfl⟩
  clear b05 rw5 fp ep npr d0 d1 d2 dd
  rintro σ H5 ⟨p, c0, c1, c2, rfl, b05, rw5, fp, ep, npr, d0, d1, d2, dd, dm⟩
  refine ⟨fun σ H' => ∃ (p : Addr) (c0 c1 c2 : Int), σ = [some (.ref r), some (.int m), some (.int sp), some (.ref p)] ∧ But r H H' ∧ RowsAt H' r ∧ H p = none ∧ H' p = some (.lst [.int c0, .int c1, .int c2]) ∧ p ≠ r ∧ 0 ≤ c0 ∧ 0 ≤ c1 ∧ 0 ≤ c2 ∧ c0 + 2 * c1 + c2 ≤ 9 ∧ (m = 1 → c1 = 0) ∧ 1 ≤ c0 + c1 + c2, ?_, ?_⟩
  · have hsum : ([c0, c1, c2] : List Int).sum = c0 + c1 + c2 := by simp only [List.sum_cons, List.sum_nil]; omega
    refine ⟨_, rfl, _, [c0, c1, c2], rfl, SqL.of ep, rfl, _, rfl, ite2 (fun c => ?_) (fun c => ?_)⟩
    · have c' := vint_eq c
      rw [hsum] at c'
      refine ⟨_, rfl, _, _, _, 2, rfl, rfl, ep, rfl, ?_⟩
      have bp : But p H5 (upd H5 p (.lst ([V.int c0, V.int c1, V.int c2].set 2 (V.int 1)))) := But.set
      exact ⟨p, c0, c1, 1, rfl, fun c w hc hw => bp _ _ (ne_of_none hw fp) (b05 _ _ hc hw), rw5.but bp npr.symm, fp, upd_same, npr, d0, d1, by decide, by omega, dm, by omega⟩
    · have c' := vint_ne c
      rw [hsum] at c'
      exact ⟨p, c0, c1, c2, rfl, b05, rw5, fp, ep, npr, d0, d1, d2, dd, dm, by omega⟩
  clear b05 rw5 fp ep npr d0 d1 d2 dd dm
  rintro σ H5 ⟨p, c0, c1, c2, rfl, b05, rw5, fp, ep, npr, d0, d1, d2, dd, dm, ds⟩
  exact ⟨_, rfl, q p H5 c0 c1 c2 b05 rw5 fp ep npr d0 d1 d2 dd ds dm⟩
def WayAt (K : PySem.W.Frag) (H : Hp) (a : Addr) (w : Int × Int) : Prop := SqT K H a [.int w.1, .int w.2]
def sp__law_ways (K : PySem.W.Frag) : Sp := fun vs H Q _ => ∃ (r : Addr) (m n : Int), vs = [.ref r, .int m, .int n] ∧ RowsAt H r ∧ 2 ≤ m ∧ m ≤ 6 ∧ 0 ≤ n ∧ n ≤ 4 ∧ ∀ (p : Addr) (H' : Hp) (as : List Addr) (ws : List (Int × Int)), But r H H' → RowsAt H' r → p ≠ r → H' p = some (.lst (as.map V.ref)) → Each (WayAt K H') as ws → (∀ w ∈ ws, (0 ≤ w.1 ∧ w.1 < m) ∧ (0 ≤ w.2 ∧ w.2 < m)) → ws.length = 2 * n.toNat → H p = none → Q (.ref p) H'
theorem ok__law_ways {f : Addr} {fd : FuncData} (D : Df K mg "_law_ways" s__law_ways ["rows", "many", "pairs"] f fd) (T : Txt K mg) {f__law_take : Addr} {fd__law_take : FuncData} (D__law_take : Df K mg "_law_take" s__law_take ["rows", "at", "many"] f__law_take fd__law_take) (G__law_take : FnOk P w K mg base CX0 1 f__law_take fd__law_take ["rows", "at", "many"] (sp__law_take K)) : FnOk P w K mg base CX0 2 f fd ["rows", "many", "pairs"] (sp__law_ways K) := by
  refine D.F.ok sc__law_ways (fun vs H Q E h => ?_) (fun cdv A outer s H vs Q E hr h => ?_)
  · obtain ⟨r, m, n, rfl, _⟩ := h
    rfl
  obtain ⟨r, m, n, rfl, hrw, hm2, hm6, hn0, hn4, q⟩ := h
  refine ⟨_, (pss_cons (ps_set (i := 3) sc__law_ways.nd rfl (Or.inl rfl) (pe_lst pa_nil))
    (pss_cons (ps_set (i := 4) sc__law_ways.nd rfl (Or.inl rfl) (pe_lst pa_nil))
    (pss_cons (ps_for PassesOwn.never rfl (pi_range1 rfl T.range (pa_cons (pv 2) pa_nil)) (pg_name (i := 5) sc__law_ways.nd rfl (Or.inl rfl))
      (pss_cons (ps_set (i := 7) sc__law_ways.nd rfl (Or.inl rfl) (pe_call G__law_take (hr.mono (by decide)) rfl D__law_take.m D__law_take.F.kp D__law_take.b .nil pass0 (pa_cons (pv 0) (pa_cons pe_int (pa_cons (pv 1) pa_nil)))))
    (pss_cons (ps_set (i := 8) sc__law_ways.nd rfl (Or.inl rfl) (pe_op op_modN (pe_callTy call_int1 rfl T.int (by decide +kernel) (pa_cons (pe_op op_add (pe_op op_add (pv 7) pe_int) (pe_call G__law_take (hr.mono (by decide)) rfl D__law_take.m D__law_take.F.kp D__law_take.b .nil pass0 (pa_cons (pv 0) (pa_cons pe_int (pa_cons (pe_op op_sub (pv 1) pe_int) pa_nil))))) pa_nil)) (pv 1)))
    (pss_cons (ps_expr (pe_bm PySem.F.plainAttrs_list PySem.F.slot_list_append PySem.F.type_list_append mt_append (pv 3) (pa_cons (pe_tup (pa_cons (pv 7) (pa_cons (pv 8) pa_nil))) pa_nil)))
    (pss_one (ps_expr (pe_bm PySem.F.plainAttrs_list PySem.F.slot_list_append PySem.F.type_list_append mt_append (pv 4) (pa_cons (pe_tup (pa_cons (pv 8) (pa_cons (pv 7) pa_nil))) pa_nil))))))))
    (pss_cons (ps_if (pt_cmpR op_eq (pe_call G__law_take (hr.mono (by decide)) rfl D__law_take.m D__law_take.F.kp D__law_take.b .nil pass0 (pa_cons (pv 0) (pa_cons pe_int (pa_cons pe_int pa_nil)))) pe_int (nomark _))
      (pss_one (ps_ret (pe_op op_cat (pv 3) (pv 4))))
      pss_nil)
    (pss_cons (ps_set (i := 6) sc__law_ways.nd rfl (Or.inl rfl) (pe_lst pa_nil))
    (pss_cons (ps_for PassesOwn.never rfl (pi_range1 rfl T.range (pa_cons (pv 2) pa_nil)) (pg_name (i := 5) sc__law_ways.nd rfl (Or.inl rfl))
      (pss_one (ps_set (i := 6) sc__law_ways.nd rfl (Or.inl rfl) (pe_op op_cat (pv 6) (pe_lst (pa_cons (pe_ix ix_list (pv 4) (pv 5) (fun _ _ => rfl)) (pa_cons (pe_ix ix_list (pv 3) (pv 5) (fun _ _ => rfl)) pa_nil)))))))
    (pss_one (ps_ret (pv 6))))))))), ?_⟩
  refine ⟨(by show 0 ≤ sizeLine; decide), fun A nA => ⟨(by show 0 ≤ sizeLine; decide), fun B nB => ?_⟩⟩
  have s1 : Same H (upd H A (.lst [])) := same_upd nA
  have eA : (upd H A (.lst [])) A = some (.lst []) := upd_same
  generalize upd H A (.lst []) = H1 at *
  have s2 : Same H1 (upd H1 B (.lst [])) := same_upd nB
  have eB : (upd H1 B (.lst [])) B = some (.lst []) := upd_same
  have nAB : A ≠ B := ne_of_none eA nB
  have eA2 := s2 _ _ eA
  have rw2 := hrw.keep (s1.trans s2)
  have b2 : But r H _ := But.of (s1.trans s2)
  obtain ⟨xs0, hx0⟩ := hrw.lst
  have nAr : A ≠ r := (ne_of_none hx0 nA).symm
  have nBr : B ≠ r := (ne_of_none (s1 _ _ hx0) nB).symm
  have fB : H B = none := s1.free nB
  generalize upd H1 B (.lst []) = H2 at *
  refine ⟨_, rfl, _, rfl, by omega, by omega, for_range (lo := 0) (n := n.toNat) (fun i σ H' => ∃ k h t, ∃ (as bs : List Addr) (ws vs : List (Int × Int)), σ = [some (.ref r), some (.int m), some (.int n), some (.ref A), some (.ref B), k, none, h, t] ∧ But r H H' ∧ RowsAt H' r ∧ H' A = some (.lst (as.map V.ref)) ∧ H' B = some (.lst (bs.map V.ref)) ∧ Each (WayAt K H') as ws ∧ Each (WayAt K H') bs vs ∧ (∀ w ∈ ws, (0 ≤ w.1 ∧ w.1 < m) ∧ (0 ≤ w.2 ∧ w.2 < m)) ∧ (∀ w ∈ vs, (0 ≤ w.1 ∧ w.1 < m) ∧ (0 ≤ w.2 ∧ w.2 < m)) ∧ ws.length = i ∧ vs.length = i)
    ⟨none, none, none, [], [], [], [], rfl, b2, rw2, eA2, eB, Each.nil, Each.nil, fun w h => by simp at h, fun w h => by simp at h, rfl, rfl⟩ ?_ ?_⟩
  · rintro i σ H' hi ⟨k, h, t, as, bs, ws, vs, rfl, b3, rw3, eA3, eB3, hA, hB, oA, oB, lA, lB⟩
    have hi' : i ≤ 4 := by omega
    refine ⟨_, rfl, _, rfl, r, 25, m, rfl, rw3, by decide, by decide, by omega, by omega, fun here H4 h0 h1 b4 rw4 => ?_⟩
    refine ⟨_, rfl, _, _, rfl, rfl, _, rfl, _, rfl, _, _, rfl, rfl, r, 25, m - 1, rfl, rw4, by decide, by decide, by omega, by omega, fun g H5 g0 g1 b5 rw5 => ⟨_, _, rfl, rfl, .inl ⟨_, rfl, _, rfl, _, _, rfl, rfl, by omega, ?_⟩⟩⟩
    have t0 : 0 ≤ (here + 1 + g).fmod m := Int.fmod_nonneg_of_pos _ (by omega)
    have t1 : (here + 1 + g).fmod m < m := Int.fmod_lt_of_pos _ (by omega)
    obtain ⟨xs3, hx3⟩ := rw3.lst
    have b35 := b4.trans b5
    have eA5 := b35 _ _ nAr eA3
    have eB5 := b35 _ _ nBr eB3
    have hA5 := hA.keep fun a w (z : WayAt K H' a w) => (butTup b35 hx3 z : WayAt K H5 a w)
    have hB5 := hB.keep fun a w (z : WayAt K H' a w) => (butTup b35 hx3 z : WayAt K H5 a w)
    refine ⟨_, rfl, .inl ⟨rfl, _, SqL.of eA5⟩, _, rfl, _, rfl, (by show 2 ≤ sizeLine; decide), fun w1 nw1 => ?_⟩
    have s6 : Same H5 (upd H5 w1 (.tup [V.int here, V.int ((here + 1 + g).fmod m)])) := same_upd nw1
    have e6 : (upd H5 w1 (.tup [V.int here, V.int ((here + 1 + g).fmod m)])) w1 = some (.tup [V.int here, V.int ((here + 1 + g).fmod m)]) := upd_same
    generalize upd H5 w1 (.tup [V.int here, V.int ((here + 1 + g).fmod m)]) = H6 at *
    have eA6 := s6 _ _ eA5
    have eB6 := s6 _ _ eB5
    refine ⟨_, _, _, rfl, rfl, eA6, by rw [List.length_map, hA.1]; exact sizes' (by omega), ?_⟩
    have b7 : But A H6 (upd H6 A (.lst (as.map V.ref ++ [V.ref w1]))) := But.set
    have eA7 : (upd H6 A (.lst (as.map V.ref ++ [V.ref w1]))) A = some (.lst ((as ++ [w1]).map V.ref)) := by rw [upd_same, List.map_append]; rfl
    have eB7 := b7 _ _ nAB.symm eB6
    have hA7 := ((hA5.keep fun a w (z : WayAt K H5 a w) => (sTup s6 z : WayAt K H6 a w)).snoc (x := (here, (here + 1 + g).fmod m)) (SqT.of e6 : WayAt K H6 w1 _)).keep fun a w (z : WayAt K H6 a w) => (butTup b7 eA6 z : WayAt K _ a w)
    have hB7 := (hB5.keep fun a w (z : WayAt K H5 a w) => (sTup s6 z : WayAt K H6 a w)).keep fun a w (z : WayAt K H6 a w) => (butTup b7 eA6 z : WayAt K _ a w)
    have b07 : But r H (upd H6 A (.lst (as.map V.ref ++ [V.ref w1]))) := fun c w hc hw => b7 _ _ (ne_of_none hw nA) (s6 _ _ (b35 _ _ hc (b3 _ _ hc hw)))
    have rw7 := (rw5.keep s6).but b7 nAr.symm
    generalize upd H6 A (.lst (as.map V.ref ++ [V.ref w1])) = H7 at *
    refine ⟨_, rfl, .inl ⟨rfl, _, SqL.of eB7⟩, _, rfl, _, rfl, (by show 2 ≤ sizeLine; decide), fun w2 nw2 => ?_⟩
    have s8 : Same H7 (upd H7 w2 (.tup [V.int ((here + 1 + g).fmod m), V.int here])) := same_upd nw2
    have e8 : (upd H7 w2 (.tup [V.int ((here + 1 + g).fmod m), V.int here])) w2 = some (.tup [V.int ((here + 1 + g).fmod m), V.int here]) := upd_same
    generalize upd H7 w2 (.tup [V.int ((here + 1 + g).fmod m), V.int here]) = H8 at *
    have eA8 := s8 _ _ eA7
    have eB8 := s8 _ _ eB7
    have b9 : But B H8 (upd H8 B (.lst (bs.map V.ref ++ [V.ref w2]))) := But.set
    refine ⟨_, _, _, rfl, rfl, eB8, by rw [List.length_map, hB.1]; exact sizes' (by omega), _, _, _, as ++ [w1], bs ++ [w2], ws ++ [(here, (here + 1 + g).fmod m)], vs ++ [((here + 1 + g).fmod m, here)], rfl, fun c w hc hw => b9 _ _ (ne_of_none hw fB) (s8 _ _ (b07 _ _ hc hw)), (rw7.keep s8).but b9 nBr.symm, b9 _ _ nAB eA8, by rw [upd_same, List.map_append]; rfl,
      (hA7.keep fun a w (z : WayAt K H7 a w) => (sTup s8 z : WayAt K H8 a w)).keep fun a w (z : WayAt K H8 a w) => (butTup b9 eB8 z : WayAt K _ a w),
      ((hB7.keep fun a w (z : WayAt K H7 a w) => (sTup s8 z : WayAt K H8 a w)).snoc (x := ((here + 1 + g).fmod m, here)) (SqT.of e8 : WayAt K H8 w2 _)).keep fun a w (z : WayAt K H8 a w) => (butTup b9 eB8 z : WayAt K _ a w), fun w hw => ?_, fun w hw => ?_, by rw [List.length_append, List.length_singleton, lA], by rw [List.length_append, List.length_singleton, lB]⟩
    · rcases List.mem_append.mp hw with h | h
      · exact oA w h
      · rw [List.mem_singleton.mp h]; exact ⟨⟨h0, h1⟩, ⟨t0, t1⟩⟩
    · rcases List.mem_append.mp hw with h | h
      · exact oB w h
      · rw [List.mem_singleton.mp h]; exact ⟨⟨t0, t1⟩, ⟨h0, h1⟩⟩
  rintro σ H3 ⟨k, h, t, as, bs, ws, vs, rfl, b3, rw3, eA3, eB3, hA, hB, oA, oB, lA, lB⟩
  refine ⟨_, rfl, r, 25, 2, rfl, rw3, by decide, by decide, by decide, by decide, fun g H4 _ _ b4 rw4 => ⟨rfl, _, rfl, ite2 (fun c => ?_) (fun c => ?_)⟩⟩
  all_goals
    obtain ⟨xs3, hx3⟩ := rw3.lst
    have eA4 := b4 _ _ nAr eA3
    have eB4 := b4 _ _ nBr eB3
    have hA4 := hA.keep fun a w (z : WayAt K H3 a w) => (butTup b4 hx3 z : WayAt K H4 a w)
    have hB4 := hB.keep fun a w (z : WayAt K H3 a w) => (butTup b4 hx3 z : WayAt K H4 a w)
    have b04 := b3.trans b4
    obtain ⟨xs4, hx4⟩ := rw4.lst
  · refine ⟨_, rfl, _, rfl, _, _, _, _, rfl, rfl, eA4, eB4, sizes (by rw [List.length_map, List.length_map, hA.1, hB.1]; omega), fun p np => ?_⟩
    have s5 : Same H4 (upd H4 p (.lst (as.map V.ref ++ bs.map V.ref))) := same_upd np
    have npr : p ≠ r := (ne_of_none hx4 np).symm
    exact q p _ (as ++ bs) (ws ++ vs) (b04.trans (But.of s5)) (rw4.keep s5) npr (by rw [upd_same, List.map_append]) ((hA4.append hB4).keep fun a w (z : WayAt K H4 a w) => (sTup s5 z : WayAt K _ a w)) (fun w hw => by
      rcases List.mem_append.mp hw with h | h
      · exact oA w h
      · exact oB w h) (by rw [List.length_append, lA, lB]; omega) (b04.free npr np)
  · refine ⟨(by show 0 ≤ sizeLine; decide), fun W nW => ?_⟩
    have s5 : Same H4 (upd H4 W (.lst [])) := same_upd nW
    have eW : (upd H4 W (.lst [])) W = some (.lst []) := upd_same
    have nWr : W ≠ r := (ne_of_none hx4 nW).symm
    generalize upd H4 W (.lst []) = H5 at *
    refine ⟨_, rfl, _, rfl, by omega, by omega, for_range (lo := 0) (n := n.toNat) (fun i σ H' => ∃ k W, ∃ (cs : List Addr) (us : List (Int × Int)), σ = [some (.ref r), some (.int m), some (.int n), some (.ref A), some (.ref B), k, some (.ref W), h, t] ∧ Same H4 H' ∧ H' W = some (.lst (cs.map V.ref)) ∧ W ≠ r ∧ H W = none ∧ Each (WayAt K H') cs us ∧ (∀ w ∈ us, (0 ≤ w.1 ∧ w.1 < m) ∧ (0 ≤ w.2 ∧ w.2 < m)) ∧ us.length = 2 * i) ⟨_, W, [], [], rfl, s5, eW, nWr, b04.free nWr nW, Each.nil, fun w h => by simp at h, rfl⟩ ?_ ?_⟩
    · rintro i σ H' hi ⟨k, W, cs, us, rfl, sm, eW, nWr, fW, hE, oE, lE⟩
      have hi1 : i < as.length := by rw [hA.1]; omega
      have hi2 : i < bs.length := by rw [hB.1]; omega
      obtain ⟨wa, hwa1, hwa2⟩ := hA4.get (List.getElem?_eq_getElem hi1)
      obtain ⟨wb, hwb1, hwb2⟩ := hB4.get (List.getElem?_eq_getElem hi2)
      refine ⟨_, rfl, _, rfl, _, rfl, _, _, _, _, rfl, rfl, SqL.of (sm _ _ eB4), at_of (j := i) (v := V.ref bs[i]) (by omega) (by rw [List.getElem?_map, List.getElem?_eq_getElem hi2]; rfl), _, rfl, _, rfl, _, _, _, _, rfl, rfl, SqL.of (sm _ _ eA4), at_of (j := i) (v := V.ref as[i]) (by omega) (by rw [List.getElem?_map, List.getElem?_eq_getElem hi1]; rfl), (by show 2 ≤ sizeLine; decide), fun d nd => ?_⟩
      have s6 : Same H' (upd H' d (.lst [V.ref bs[i], V.ref as[i]])) := same_upd nd
      have e6 : (upd H' d (.lst [V.ref bs[i], V.ref as[i]])) d = some (.lst [V.ref bs[i], V.ref as[i]]) := upd_same
      generalize upd H' d (.lst [V.ref bs[i], V.ref as[i]]) = H6 at *
      refine ⟨_, _, _, _, rfl, rfl, s6 _ _ eW, e6, sizes (by rw [List.length_map, hE.1]; simp only [List.length_cons, List.length_nil]; omega), fun W2 nW2 => ?_⟩
      have s7 : Same H6 (upd H6 W2 (.lst (cs.map V.ref ++ [V.ref bs[i], V.ref as[i]]))) := same_upd nW2
      have s47 := sm.trans (s6.trans s7)
      have nW2r : W2 ≠ r := (ne_of_none ((sm.trans s6) _ _ hx4) nW2).symm
      refine ⟨_, W2, cs ++ [bs[i], as[i]], us ++ [wb, wa], rfl, s47, by rw [upd_same, List.map_append]; rfl, nW2r, b04.free nW2r ((sm.trans s6).free nW2), ?_, fun w hw => ?_, by rw [List.length_append, lE]; simp only [List.length_cons, List.length_nil]; omega⟩
      · refine Each.append (hE.keep fun a w (z : WayAt K H' a w) => (sTup (s6.trans s7) z : WayAt K _ a w)) ?_
        exact Each.snoc (as := [bs[i]]) (xs := [wb]) (Each.snoc (as := []) (xs := []) Each.nil (sTup s47 hwb2 : WayAt K _ _ wb)) (sTup s47 hwa2 : WayAt K _ _ wa)
      · rcases List.mem_append.mp hw with h | h
        · exact oE w h
        · simp only [List.mem_cons, List.not_mem_nil, or_false] at h
          rcases h with h | h <;> rw [h]
          · exact oB wb (List.mem_of_getElem? hwb1)
          · exact oA wa (List.mem_of_getElem? hwa1)
    · rintro σ H' ⟨k, W, cs, us, rfl, sm, eW, nWr, fW, hE, oE, lE⟩
      exact ⟨_, rfl, q W H' cs us (b04.trans (But.of sm)) (rw4.keep sm) nWr eW hE oE lE fW⟩
/-- while the parts are drawn -/
structure Ps (K : PySem.W.Frag) (H H' : Hp) (r D q C L S : Addr) (ds : List Str) (c0 c1 c2 : Int) (cs : List Cl) (ls : List Lk) (ss : List Sr) : Prop where
  b : But r H H'
  rw_ : RowsAt H' r
  d : H' D = some (.lst (ds.map V.str))
  q : H' q = some (.lst [.int c0, .int c1, .int c2])
  c : ∃ as, H' C = some (.lst (as.map V.ref)) ∧ Each (ClAt K H') as cs
  l : ∃ as, H' L = some (.lst (as.map V.ref)) ∧ Each (LkAt K H') as ls
  s : ∃ as, H' S = some (.lst (as.map V.ref)) ∧ Each (SrAt K H') as ss
/-- the places are new and apart -/
structure Pn (H : Hp) (r D q C L S : Addr) : Prop where
  fC : H C = none
  fL : H L = none
  fS : H S = none
  Dr : D ≠ r
  qr : q ≠ r
  Cr : C ≠ r
  Lr : L ≠ r
  Sr_ : S ≠ r
  DC : D ≠ C
  DL : D ≠ L
  DS : D ≠ S
  qC : q ≠ C
  qL : q ≠ L
  qS : q ≠ S
  CL_ : C ≠ L
  CS : C ≠ S
  LS : L ≠ S
section
variable {K : PySem.W.Frag} {H H' H2 : Hp} {r D q C L S : Addr} {ds : List Str} {c0 c1 c2 : Int} {cs : List Cl} {ls : List Lk} {ss : List Sr}
theorem Ps.same (h : Ps K H H' r D q C L S ds c0 c1 c2 cs ls ss) (e : Same H' H2) : Ps K H H2 r D q C L S ds c0 c1 c2 cs ls ss := by
  obtain ⟨b, w, d, q, ⟨a1, x1, y1⟩, ⟨a2, x2, y2⟩, ⟨a3, x3, y3⟩⟩ := h
  exact ⟨b.trans (But.of e), w.keep e, e _ _ d, e _ _ q, ⟨a1, e _ _ x1, y1.keep fun _ _ z => z.keep e⟩, ⟨a2, e _ _ x2, y2.keep fun _ _ z => z.keep e⟩, ⟨a3, e _ _ x3, y3.keep fun _ _ z => z.keep e⟩⟩
theorem Ps.go (h : Ps K H H' r D q C L S ds c0 c1 c2 cs ls ss) (n : Pn H r D q C L S) (e : But r H' H2) (w2 : RowsAt H2 r) : Ps K H H2 r D q C L S ds c0 c1 c2 cs ls ss := by
  obtain ⟨b, w, d, q, ⟨a1, x1, y1⟩, ⟨a2, x2, y2⟩, ⟨a3, x3, y3⟩⟩ := h
  obtain ⟨xs, hx⟩ := w.lst
  exact ⟨b.trans e, w2, e _ _ n.Dr d, e _ _ n.qr q, ⟨a1, e _ _ n.Cr x1, y1.keep fun _ _ z => z.but e hx⟩, ⟨a2, e _ _ n.Lr x2, y2.keep fun _ _ z => z.but e hx⟩, ⟨a3, e _ _ n.Sr_ x3, y3.keep fun _ _ z => z.but e hx⟩⟩
theorem Ps.addC (h : Ps K H H' r D q C L S ds c0 c1 c2 cs ls ss) (n : Pn H r D q C L S) {as : List Addr} (hC : H' C = some (.lst (as.map V.ref))) (hE : Each (ClAt K H') as cs) {a : Addr} {c : Cl} (ha : ClAt K H' a c) :
    Ps K H (upd H' C (.lst (as.map V.ref ++ [V.ref a]))) r D q C L S ds c0 c1 c2 (cs ++ [c]) ls ss := by
  obtain ⟨b, w, d, q, _, ⟨a2, x2, y2⟩, ⟨a3, x3, y3⟩⟩ := h
  have e : But C H' (upd H' C (.lst (as.map V.ref ++ [V.ref a]))) := But.set
  exact ⟨fun x u hx hu => e _ _ (ne_of_none hu n.fC) (b _ _ hx hu), w.but e n.Cr.symm, e _ _ n.DC d, e _ _ n.qC q, ⟨as ++ [a], by rw [upd_same, List.map_append]; rfl, (hE.snoc ha).keep fun _ _ z => z.but e hC⟩, ⟨a2, e _ _ n.CL_.symm x2, y2.keep fun _ _ z => z.but e hC⟩, ⟨a3, e _ _ n.CS.symm x3, y3.keep fun _ _ z => z.but e hC⟩⟩
theorem Ps.addL (h : Ps K H H' r D q C L S ds c0 c1 c2 cs ls ss) (n : Pn H r D q C L S) {as : List Addr} (hC : H' L = some (.lst (as.map V.ref))) (hE : Each (LkAt K H') as ls) {a : Addr} {c : Lk} (ha : LkAt K H' a c) :
    Ps K H (upd H' L (.lst (as.map V.ref ++ [V.ref a]))) r D q C L S ds c0 c1 c2 cs (ls ++ [c]) ss := by
  obtain ⟨b, w, d, q, ⟨a1, x1, y1⟩, _, ⟨a3, x3, y3⟩⟩ := h
  have e : But L H' (upd H' L (.lst (as.map V.ref ++ [V.ref a]))) := But.set
  exact ⟨fun x u hx hu => e _ _ (ne_of_none hu n.fL) (b _ _ hx hu), w.but e n.Lr.symm, e _ _ n.DL d, e _ _ n.qL q, ⟨a1, e _ _ n.CL_ x1, y1.keep fun _ _ z => z.but e hC⟩, ⟨as ++ [a], by rw [upd_same, List.map_append]; rfl, (hE.snoc ha).keep fun _ _ z => z.but e hC⟩, ⟨a3, e _ _ n.LS.symm x3, y3.keep fun _ _ z => z.but e hC⟩⟩
theorem Ps.addS (h : Ps K H H' r D q C L S ds c0 c1 c2 cs ls ss) (n : Pn H r D q C L S) {as : List Addr} (hC : H' S = some (.lst (as.map V.ref))) (hE : Each (SrAt K H') as ss) {a : Addr} {c : Sr} (ha : SrAt K H' a c) :
    Ps K H (upd H' S (.lst (as.map V.ref ++ [V.ref a]))) r D q C L S ds c0 c1 c2 cs ls (ss ++ [c]) := by
  obtain ⟨b, w, d, q, ⟨a1, x1, y1⟩, ⟨a2, x2, y2⟩, _⟩ := h
  have e : But S H' (upd H' S (.lst (as.map V.ref ++ [V.ref a]))) := But.set
  exact ⟨fun x u hx hu => e _ _ (ne_of_none hu n.fS) (b _ _ hx hu), w.but e n.Sr_.symm, e _ _ n.DS d, e _ _ n.qS q, ⟨a1, e _ _ n.CS x1, y1.keep fun _ _ z => z.but e hC⟩, ⟨a2, e _ _ n.LS x2, y2.keep fun _ _ z => z.but e hC⟩, ⟨as ++ [a], by rw [upd_same, List.map_append]; rfl, (hE.snoc ha).keep fun _ _ z => z.but e hC⟩⟩
end
def sp__law_parts (K : PySem.W.Frag) : Sp := fun vs H Q _ => ∃ (r : Addr), vs = [.ref r] ∧ RowsAt H r ∧ ∀ (t : Addr) (H' : Hp) (F : Fm), But r H H' → FmAt K H' t F → F.Ok → F.faults < ((F.clocks.length + F.links.length + F.sources.length : Nat) : Int) → Q (.ref t) H'
theorem ok__law_parts {f : Addr} {fd : FuncData} (D : Df K mg "_law_parts" s__law_parts ["rows"] f fd) (T : Txt K mg) {f__law_take : Addr} {fd__law_take : FuncData} (D__law_take : Df K mg "_law_take" s__law_take ["rows", "at", "many"] f__law_take fd__law_take) (G__law_take : FnOk P w K mg base CX0 1 f__law_take fd__law_take ["rows", "at", "many"] (sp__law_take K)) {f__law_word : Addr} {fd__law_word : FuncData} (D__law_word : Df K mg "_law_word" s__law_word ["rows", "at", "used", "pool"] f__law_word fd__law_word) (G__law_word : FnOk P w K mg base CX0 2 f__law_word fd__law_word ["rows", "at", "used", "pool"] (sp__law_word K)) {f__law_kinds : Addr} {fd__law_kinds : FuncData} (D__law_kinds : Df K mg "_law_kinds" s__law_kinds ["rows", "at", "sort"] f__law_kinds fd__law_kinds) (G__law_kinds : FnOk P w K mg base CX0 3 f__law_kinds fd__law_kinds ["rows", "at", "sort"] (sp__law_kinds K)) {f__law_counts : Addr} {fd__law_counts : FuncData} (D__law_counts : Df K mg "_law_counts" s__law_counts ["rows", "many"] f__law_counts fd__law_counts) (G__law_counts : FnOk P w K mg base CX0 2 f__law_counts fd__law_counts ["rows", "many"] (sp__law_counts K)) {f__law_ways : Addr} {fd__law_ways : FuncData} (D__law_ways : Df K mg "_law_ways" s__law_ways ["rows", "many", "pairs"] f__law_ways fd__law_ways) (G__law_ways : FnOk P w K mg base CX0 2 f__law_ways fd__law_ways ["rows", "many", "pairs"] (sp__law_ways K)) : FnOk P w K mg base CX0 4 f fd ["rows"] (sp__law_parts K) := by
  refine D.F.ok sc__law_parts (fun vs H Q E h => ?_) (fun cdv A outer s H vs Q E hr h => ?_)
  · obtain ⟨r, rfl, _⟩ := h
    rfl
  obtain ⟨r, rfl, hrw, q⟩ := h
  refine ⟨_, (pss_cons (ps_set (i := 1) sc__law_parts.nd rfl (Or.inl rfl) (pe_op op_add pe_int (pe_call G__law_take (hr.mono (by decide)) rfl D__law_take.m D__law_take.F.kp D__law_take.b .nil pass0 (pa_cons (pv 0) (pa_cons pe_int (pa_cons pe_int pa_nil))))))
    (pss_cons (ps_set (i := 2) sc__law_parts.nd rfl (Or.inl rfl) (pe_lst pa_nil))
    (pss_cons (ps_for PassesOwn.never rfl (pi_range1 rfl T.range (pa_cons (pv 1) pa_nil)) (pg_name (i := 3) sc__law_parts.nd rfl (Or.inl rfl))
      (pss_one (ps_expr (pe_bm PySem.F.plainAttrs_list PySem.F.slot_list_append PySem.F.type_list_append mt_append (pv 2) (pa_cons (pe_call G__law_word (hr.mono (by decide)) rfl D__law_word.m D__law_word.F.kp D__law_word.b .nil pass0 (pa_cons (pv 0) (pa_cons (pe_op op_add pe_int (pv 3)) (pa_cons (pv 2) (pa_cons (pe_lst pa_nil) pa_nil))))) pa_nil)))))
    (pss_cons (ps_set (i := 4) sc__law_parts.nd rfl (Or.inl rfl) (pe_call G__law_counts (hr.mono (by decide)) rfl D__law_counts.m D__law_counts.F.kp D__law_counts.b .nil pass0 (pa_cons (pv 0) (pa_cons (pv 1) pa_nil))))
    (pss_cons (ps_set (i := 5) sc__law_parts.nd rfl (Or.inl rfl) (pe_lst pa_nil))
    (pss_cons (ps_set (i := 6) sc__law_parts.nd rfl (Or.inl rfl) (pe_lst pa_nil))
    (pss_cons (ps_set (i := 7) sc__law_parts.nd rfl (Or.inl rfl) (pe_lst pa_nil))
    (pss_cons (ps_set (i := 8) sc__law_parts.nd rfl (Or.inl rfl) pe_int)
    (pss_cons (ps_for PassesOwn.never rfl (pi_range1 rfl T.range (pa_cons (pe_ix ix_list (pv 4) pe_int (fun _ _ => rfl)) pa_nil)) (pg_name (i := 3) sc__law_parts.nd rfl (Or.inl rfl))
      (pss_cons (ps_set (i := 10) sc__law_parts.nd rfl (Or.inl rfl) (pe_call G__law_word (hr.mono (by decide)) rfl D__law_word.m D__law_word.F.kp D__law_word.b .nil pass0 (pa_cons (pv 0) (pa_cons (pv 8) (pa_cons (pe_lc (own := [("clock", 13)]) (g := gName 13) (tt := tYes) rfl sc__law_parts.nd (pi_list (pv 5)) (blkOk_by (own := [("clock", 13)]) (N := nm__law_parts) (sc := defScope s__law_parts) (by decide +kernel)) (fun _ _ _ _ _ => (pg_name (i := 13) sc__law_parts.nd rfl (Or.inl rfl))) (fun _ _ _ _ _ => pts_nil) (fun _ _ _ _ _ => (pe_ix (r := rIxT K) ix_tup (pv 13) pe_int (fun _ _ => rfl)))) (pa_cons (pv 2) pa_nil))))))
    (pss_cons (ps_set (i := 11) sc__law_parts.nd rfl (Or.inl rfl) (pe_cmpR op_eq (pe_call G__law_take (hr.mono (by decide)) rfl D__law_take.m D__law_take.F.kp D__law_take.b .nil pass0 (pa_cons (pv 0) (pa_cons (pv 8) (pa_cons pe_int pa_nil)))) pe_int (nomark _)))
    (pss_cons (ps_expr (pe_bm PySem.F.plainAttrs_list PySem.F.slot_list_append PySem.F.type_list_append mt_append (pv 5) (pa_cons (pe_tup (pa_cons (pv 10) (pa_cons (pe_call G__law_take (hr.mono (by decide)) rfl D__law_take.m D__law_take.F.kp D__law_take.b .nil pass0 (pa_cons (pv 0) (pa_cons (pv 8) (pa_cons (pv 1) pa_nil)))) (pa_cons (pv 11) (pa_cons (pe_call G__law_kinds (hr.mono (by decide)) rfl D__law_kinds.m D__law_kinds.F.kp D__law_kinds.b .nil pass0 (pa_cons (pv 0) (pa_cons (pe_op op_add (pv 8) pe_int) (pa_cons pe_str pa_nil)))) pa_nil))))) pa_nil)))
    (pss_one (ps_set (i := 8) sc__law_parts.nd rfl (Or.inl rfl) (pe_op op_add (pv 8) pe_int)))))))
    (C8.pss_cut (ps_if (pt_cmpR op_gt (pe_ix ix_list (pv 4) pe_int (fun _ _ => rfl)) pe_int (nomark _))
      (pss_one (ps_for PassesOwn.never rfl (pi_list (pe_call G__law_ways (hr.mono (by decide)) rfl D__law_ways.m D__law_ways.F.kp D__law_ways.b .nil pass0 (pa_cons (pv 0) (pa_cons (pv 1) (pa_cons (pe_ix ix_list (pv 4) pe_int (fun _ _ => rfl)) pa_nil))))) (pg_name (i := 12) sc__law_parts.nd rfl (Or.inl rfl))
      (pss_cons (ps_set (i := 10) sc__law_parts.nd rfl (Or.inl rfl) (pe_call G__law_word (hr.mono (by decide)) rfl D__law_word.m D__law_word.F.kp D__law_word.b .nil pass0 (pa_cons (pv 0) (pa_cons (pv 8) (pa_cons (pe_lc (own := [("link", 15)]) (g := gName 15) (tt := tYes) rfl sc__law_parts.nd (pi_list (pv 6)) (blkOk_by (own := [("link", 15)]) (N := nm__law_parts) (sc := defScope s__law_parts) (by decide +kernel)) (fun _ _ _ _ _ => (pg_name (i := 15) sc__law_parts.nd rfl (Or.inl rfl))) (fun _ _ _ _ _ => pts_nil) (fun _ _ _ _ _ => (pe_ix (r := rIxT K) ix_tup (pv 15) pe_int (fun _ _ => rfl)))) (pa_cons (pv 2) pa_nil))))))
    (pss_cons (ps_expr (pe_bm PySem.F.plainAttrs_list PySem.F.slot_list_append PySem.F.type_list_append mt_append (pv 6) (pa_cons (pe_tup (pa_cons (pv 10) (pa_cons (pe_ix ix_tup (pv 12) pe_int (fun _ _ => rfl)) (pa_cons (pe_ix ix_tup (pv 12) pe_int (fun _ _ => rfl)) (pa_cons (pe_call G__law_kinds (hr.mono (by decide)) rfl D__law_kinds.m D__law_kinds.F.kp D__law_kinds.b .nil pass0 (pa_cons (pv 0) (pa_cons (pe_op op_add (pv 8) pe_int) (pa_cons pe_str pa_nil)))) pa_nil))))) pa_nil)))
    (pss_one (ps_set (i := 8) sc__law_parts.nd rfl (Or.inl rfl) (pe_op op_add (pv 8) pe_int)))))))
      pss_nil)
    (pss_cons (ps_for PassesOwn.never rfl (pi_range1 rfl T.range (pa_cons (pe_ix ix_list (pv 4) pe_int (fun _ _ => rfl)) pa_nil)) (pg_name (i := 3) sc__law_parts.nd rfl (Or.inl rfl))
      (pss_cons (ps_set (i := 10) sc__law_parts.nd rfl (Or.inl rfl) (pe_call G__law_word (hr.mono (by decide)) rfl D__law_word.m D__law_word.F.kp D__law_word.b .nil pass0 (pa_cons (pv 0) (pa_cons (pv 8) (pa_cons (pe_lc (own := [("source", 14)]) (g := gName 14) (tt := tYes) rfl sc__law_parts.nd (pi_list (pv 7)) (blkOk_by (own := [("source", 14)]) (N := nm__law_parts) (sc := defScope s__law_parts) (by decide +kernel)) (fun _ _ _ _ _ => (pg_name (i := 14) sc__law_parts.nd rfl (Or.inl rfl))) (fun _ _ _ _ _ => pts_nil) (fun _ _ _ _ _ => (pe_ix (r := rIxT K) ix_tup (pv 14) pe_int (fun _ _ => rfl)))) (pa_cons (pv 2) pa_nil))))))
    (pss_cons (ps_expr (pe_bm PySem.F.plainAttrs_list PySem.F.slot_list_append PySem.F.type_list_append mt_append (pv 7) (pa_cons (pe_tup (pa_cons (pv 10) (pa_cons (pe_call G__law_take (hr.mono (by decide)) rfl D__law_take.m D__law_take.F.kp D__law_take.b .nil pass0 (pa_cons (pv 0) (pa_cons (pv 8) (pa_cons (pv 1) pa_nil)))) (pa_cons (pe_call G__law_kinds (hr.mono (by decide)) rfl D__law_kinds.m D__law_kinds.F.kp D__law_kinds.b .nil pass0 (pa_cons (pv 0) (pa_cons (pe_op op_add (pv 8) pe_int) (pa_cons pe_str pa_nil)))) pa_nil)))) pa_nil)))
    (pss_one (ps_set (i := 8) sc__law_parts.nd rfl (Or.inl rfl) (pe_op op_add (pv 8) pe_int))))))
    (pss_cons (ps_set (i := 9) sc__law_parts.nd rfl (Or.inl rfl) (pe_callB (call_min2 rfl) rfl T.min (by decide +kernel) (pa_cons (pe_call G__law_take (hr.mono (by decide)) rfl D__law_take.m D__law_take.F.kp D__law_take.b .nil pass0 (pa_cons (pv 0) (pa_cons pe_int (pa_cons pe_int pa_nil)))) (pa_cons (pe_op op_sub (pe_op op_add (pe_op op_add (pe_callB call_len_seq rfl T.len PySem.boot_len (pa_cons (pv 5) pa_nil)) (pe_callB call_len_seq rfl T.len PySem.boot_len (pa_cons (pv 6) pa_nil))) (pe_callB call_len_seq rfl T.len PySem.boot_len (pa_cons (pv 7) pa_nil))) pe_int) pa_nil))))
    (pss_one (ps_ret (pe_tup (pa_cons (pv 2) (pa_cons (pv 5) (pa_cons (pv 6) (pa_cons (pv 7) (pa_cons (pv 9) pa_nil)))))))))))))))))))), ?_⟩
  obtain ⟨xs0, hx0⟩ := hrw.lst
  refine ⟨_, rfl, r, 0, 6, rfl, hrw, by decide, by decide, by decide, by decide, fun g H1 g0 g1 b1 rw1 => ⟨_, _, rfl, rfl, ?_⟩⟩
  obtain ⟨m, hm⟩ : ∃ m, m = 1 + g := ⟨_, rfl⟩
  dsimp only
  rw [← hm]
  have m1 : 1 ≤ m := by omega
  have m6 : m ≤ 6 := by omega
  refine ⟨(by show 0 ≤ sizeLine; decide), fun D nD => ?_⟩
  have s2 : Same H1 (upd H1 D (.lst [])) := same_upd nD
  have eD : (upd H1 D (.lst [])) D = some (.lst []) := upd_same
  obtain ⟨xs1, hx1⟩ := rw1.lst
  have nDr : D ≠ r := (ne_of_none hx1 nD).symm
  have fD : H D = none := b1.free nDr nD
  have b2 := b1.trans (But.of (o := r) s2)
  have rw2 := rw1.keep s2
  generalize upd H1 D (.lst []) = H2 at *
  -- the devices
  refine ⟨_, rfl, _, rfl, by omega, by omega, for_range (lo := 0) (n := m.toNat) (fun i σ H' => ∃ k, ∃ ds : List Str, σ = [some (.ref r), some (.int m), some (.ref D), k, none, none, none, none, none, none, none, none, none, none, none, none] ∧ But r H H' ∧ RowsAt H' r ∧ H' D = some (.lst (ds.map V.str)) ∧ ds.length = i ∧ (∀ z ∈ ds, 1 ≤ z.length ∧ z.length ≤ 12)) ⟨none, [], rfl, b2, rw2, eD, rfl, fun z h => by simp at h⟩ ?_ ?_⟩
  · rintro i σ H' hi ⟨k, ds, rfl, b3, rw3, eD3, hl, hz⟩
    obtain ⟨xs3, hx3⟩ := rw3.lst
    refine ⟨_, rfl, .inl ⟨rfl, _, SqL.of eD3⟩, _, rfl, _, rfl, _, _, rfl, rfl, _, rfl, (by show 0 ≤ sizeLine; decide), fun pl npl => ?_⟩
    have s4 : Same H' (upd H' pl (.lst (([] : List Str).map V.str))) := same_upd npl
    have e4 : (upd H' pl (.lst (([] : List Str).map V.str))) pl = some (.lst (([] : List Str).map V.str)) := upd_same
    have npr : pl ≠ r := (ne_of_none hx3 npl).symm
    refine ⟨r, D, pl, _, ds, [], rfl, rw3.keep s4, by omega, by omega, s4 _ _ eD3, e4, nDr, npr, by decide, fun z h => by simp at h, fun z H5 b5 rw5 z1 z12 => ?_⟩
    have eD5 := b5 _ _ nDr (s4 _ _ eD3)
    have b05 := (b3.trans (But.of s4)).trans b5
    have bD : But D H5 (upd H5 D (.lst (ds.map V.str ++ [V.str z]))) := But.set
    refine ⟨_, _, _, rfl, rfl, eD5, by rw [List.length_map, hl]; exact sizes' (by omega), _, ds ++ [z], rfl, fun x u hx hu => bD _ _ (ne_of_none hu fD) (b05 _ _ hx hu), rw5.but bD nDr.symm, by rw [upd_same, List.map_append]; rfl, by rw [List.length_append, List.length_singleton, hl], fun y hy => ?_⟩
    rcases List.mem_append.mp hy with h | h
    · exact hz y h
    · rw [List.mem_singleton.mp h]; exact ⟨z1, z12⟩
  rintro σ H3 ⟨k, ds, rfl, b3, rw3, eD3, hdl, hdz⟩
  refine ⟨_, rfl, _, rfl, r, m, rfl, rw3, fun q_ H4 c0 c1 c2 b4 rw4 fq eq4 nqr d0 d1 d2 dd dn dm => ?_⟩
  have eD4 := b4 _ _ nDr eD3
  have b04 := b3.trans b4
  have nDq : D ≠ q_ := ne_of_none eD3 fq
  refine ⟨(by show 0 ≤ sizeLine; decide), fun C nC => ⟨(by show 0 ≤ sizeLine; decide), fun L nL => ⟨(by show 0 ≤ sizeLine; decide), fun S nS => ?_⟩⟩⟩
  obtain ⟨xs4, hx4⟩ := rw4.lst
  have s5 : Same H4 (upd H4 C (.lst [])) := same_upd nC
  have e5 : (upd H4 C (.lst [])) C = some (.lst []) := upd_same
  have nCr : C ≠ r := (ne_of_none hx4 nC).symm
  have nDC : D ≠ C := ne_of_none eD4 nC
  have nqC : q_ ≠ C := ne_of_none eq4 nC
  generalize upd H4 C (.lst []) = H5 at *
  have s6 : Same H5 (upd H5 L (.lst [])) := same_upd nL
  have e6 : (upd H5 L (.lst [])) L = some (.lst []) := upd_same
  have nLr : L ≠ r := (ne_of_none (s5 _ _ hx4) nL).symm
  have nDL : D ≠ L := ne_of_none (s5 _ _ eD4) nL
  have nqL : q_ ≠ L := ne_of_none (s5 _ _ eq4) nL
  have nCL : C ≠ L := ne_of_none e5 nL
  have fL4 : H4 L = none := s5.free nL
  generalize upd H5 L (.lst []) = H6 at *
  have s56 := s5.trans s6
  have s7 : Same H6 (upd H6 S (.lst [])) := same_upd nS
  have e7 : (upd H6 S (.lst [])) S = some (.lst []) := upd_same
  have nSr : S ≠ r := (ne_of_none (s56 _ _ hx4) nS).symm
  have nDS : D ≠ S := ne_of_none (s56 _ _ eD4) nS
  have nqS : q_ ≠ S := ne_of_none (s56 _ _ eq4) nS
  have nCS : C ≠ S := ne_of_none (s6 _ _ e5) nS
  have nLS : L ≠ S := ne_of_none e6 nS
  have fS4 : H4 S = none := s56.free nS
  have pn : Pn H r D q_ C L S := ⟨b04.free nCr nC, b04.free nLr fL4, b04.free nSr fS4, nDr, nqr, nCr, nLr, nSr, nDC, nDL, nDS, nqC, nqL, nqS, nCL, nCS, nLS⟩
  have s47 := s56.trans s7
  have p7 : Ps K H (upd H6 S (.lst [])) r D q_ C L S ds c0 c1 c2 [] [] [] := ⟨b04.trans (But.of s47), rw4.keep s47, s47 _ _ eD4, s47 _ _ eq4, ⟨[], (s6.trans s7) _ _ e5, Each.nil⟩, ⟨[], s7 _ _ e6, Each.nil⟩, ⟨[], e7, Each.nil⟩⟩
  have hdn : (ds.length : Int) = m := by omega
  have hdl6 : ds.length ≤ 6 := by omega
  generalize upd H6 S (.lst []) = H7 at *
  clear eD3 eD4 eq4 e5 e6 e7 s5 s6 s7 s56 s47 b04 rw4 b3 rw3 hx4 fL4 fS4 nC nL nS nDC nDL nDS nqC nqL nqS nCL nCS nLS eD nD s2 b2 rw2 hx1 b1 rw1 b4 fq
  -- at = 7; the clocks
  refine ⟨_, rfl, _, _, _, _, rfl, rfl, SqL.of p7.q, at_of (j := 0) rfl rfl, _, rfl, by omega, by omega, for_range (lo := 0) (n := c0.toNat) (fun i σ H' => ∃ k v10 v11, ∃ (av : Int) (cs : List Cl), σ = [some (.ref r), some (.int m), some (.ref D), k, some (.ref q_), some (.ref C), some (.ref L), some (.ref S), some (.int av), none, v10, v11, none, none, none, none] ∧ av = 7 + (i : Int) ∧ Ps K H H' r D q_ C L S ds c0 c1 c2 cs [] [] ∧ cs.length = i ∧ ∀ c ∈ cs, c.Ok ds.length) ⟨_, none, none, 7, [], rfl, rfl, p7, rfl, fun c h => by simp at h⟩ ?_ ?_⟩
  · rintro i σ H' hi ⟨k, v10, v11, av, cs, rfl, hav, ps, hcl, hok⟩
    obtain ⟨as, hC, hE⟩ := ps.c
    have hal := hE.1
    have hasl : (as.map V.ref).length = i := by rw [List.length_map]; omega
    refine ⟨_, rfl, _, rfl, _, rfl, C, rfl, ⟨_, SqL.of hC⟩, fun N hN => lc_list (K := K) (a := C) (xs := as.map V.ref) (fun j H2 => ∃ us : List Str, Same H' H2 ∧ H2 N = some (.lst (us.map V.str)) ∧ us.length = j) ⟨[], same_upd hN, upd_same, rfl⟩ (fun j H2 _ ⟨_, sm, _⟩ => SqL.of (sm _ _ hC)) ?_ ?_⟩
    · rintro j x H2 hx ⟨us, sm, eN, hul⟩
      obtain ⟨hjl, rfl⟩ := ref_get hx
      obtain ⟨c, hc1, tt, hc2, hc3⟩ := hE.get (List.getElem?_eq_getElem hjl)
      refine ⟨rfl, _, rfl, _, _, _, _, rfl, rfl, sTup sm hc2, at_of (j := 0) rfl rfl, _, eN, by rw [List.length_map]; exact sizes' (by omega), us ++ [c.name], fun x w hx => ?_, by rw [upd_same, List.map_append]; rfl, by rw [List.length_append, List.length_singleton, hul]⟩
      rw [upd_ne (ne_of_none hx hN)]
      exact sm _ _ hx
    rintro H8 ⟨us, s8, eN, hul⟩
    have ps8 := ps.same s8
    obtain ⟨xs8, hx8⟩ := ps.rw_.lst
    have nNr : N ≠ r := (ne_of_none hx8 hN).symm
    refine ⟨_, rfl, r, N, D, av, us, ds, rfl, ps8.rw_, by omega, by omega, eN, ps8.d, nNr, nDr, by omega, hdz, fun z H9 b9 rw9 z1 z12 => ?_⟩
    have ps9 := ps8.go pn b9 rw9
    refine ⟨_, rfl, _, rfl, r, av, 2, rfl, rw9, by omega, by omega, by decide, by decide, fun g2 H10 _ _ b10 rw10 => ⟨rfl, ?_⟩⟩
    have ps10 := ps9.go pn b10 rw10
    obtain ⟨as10, hC10, hE10⟩ := ps10.c
    refine ⟨_, rfl, .inl ⟨rfl, _, SqL.of hC10⟩, _, rfl, _, rfl, _, rfl, _, rfl, r, av, m, rfl, rw10, by omega, by omega, by omega, by omega, fun dv H11 dv0 dv1 b11 rw11 => ?_⟩
    have ps11 := ps10.go pn b11 rw11
    refine ⟨_, rfl, _, rfl, _, rfl, _, _, rfl, rfl, r, av + 9, _, rfl, rw11, by omega, by omega, fun kt H12 ks b12 rw12 hks hkok => ⟨(by show 4 ≤ sizeLine; decide), fun w nw => ?_⟩⟩
    have ps12 := ps11.go pn b12 rw12
    have s13 := fun o => (same_upd (o := o) nw : Same H12 (upd H12 w o))
    have ps13 := ps12.same (s13 (.tup [V.str z, V.int dv, V.bl (decide (V.int g2 = V.int 1)), V.ref kt]))
    obtain ⟨as13, hC13, hE13⟩ := ps13.c
    have hcn : ClAt K (upd H12 w (.tup [V.str z, V.int dv, V.bl (decide (V.int g2 = V.int 1)), V.ref kt])) w ⟨z, dv, decide (V.int g2 = V.int 1), ks⟩ := ⟨kt, SqT.of upd_same, hks.keep (s13 _)⟩
    refine ⟨_, _, _, rfl, rfl, hC13, by rw [List.length_map, hE13.1]; exact sizes' (by omega), ?_⟩
    refine ⟨_, rfl, _, _, rfl, rfl, _, _, _, _, cs ++ [⟨z, dv, decide (V.int g2 = V.int 1), ks⟩], rfl, by omega, ps13.addC pn hC13 hE13 hcn, by rw [List.length_append, List.length_singleton, hcl], fun c hc => ?_⟩
    rcases List.mem_append.mp hc with h | h
    · exact hok c h
    · rw [List.mem_singleton.mp h]
      exact ⟨z12, ⟨dv0, by rw [hdn]; exact dv1⟩, hkok⟩
  rintro σ H8 ⟨k, v10, v11, av, cs, rfl, hav, ps, hcl, hcok⟩
  have av7 : av = 7 + c0 := by omega
  -- the links
  refine ⟨fun σ H' => ∃ v10 v11 v12, ∃ (av : Int) (ls : List Lk), σ = [some (.ref r), some (.int m), some (.ref D), k, some (.ref q_), some (.ref C), some (.ref L), some (.ref S), some (.int av), none, v10, v11, v12, none, none, none] ∧ av = 7 + c0 + 2 * c1 ∧ Ps K H H' r D q_ C L S ds c0 c1 c2 cs ls [] ∧ (ls.length : Int) = 2 * c1 ∧ ∀ c ∈ ls, c.Ok ds.length, ?_, ?_⟩
  · refine ⟨_, rfl, _, _, _, _, rfl, rfl, SqL.of ps.q, at_of (j := 1) rfl rfl, _, _, rfl, rfl, _, rfl, ite2 (fun c => ?_) (fun c => ?_)⟩
    · have c' : c1 > 0 := of_decide_eq_true c
      have m2 : 2 ≤ m := by
        rcases Int.lt_or_le m 2 with h | h
        · exact absurd (dm (by omega)) (by omega)
        · exact h
      refine ⟨_, rfl, _, rfl, _, rfl, _, _, _, _, rfl, rfl, SqL.of ps.q, at_of (j := 1) rfl rfl, r, m, c1, rfl, ps.rw_, m2, m6, d1, by omega, fun W H9 was ws b9 rw9 nWr eW hW oW lW fW => ?_⟩
      have ps9 := ps.go pn b9 rw9
      obtain ⟨xsL, hxL, _⟩ := ps.l
      have nWL : W ≠ L := (ne_of_none hxL fW).symm
      refine ⟨W, rfl, ⟨_, SqL.of eW⟩, for_list (K := K) (a := W) (xs := was.map V.ref) (fun i σ H' => ∃ v10 v12, ∃ (av : Int) (ls : List Lk), σ = [some (.ref r), some (.int m), some (.ref D), k, some (.ref q_), some (.ref C), some (.ref L), some (.ref S), some (.int av), none, v10, v11, v12, none, none, none] ∧ av = 7 + c0 + (i : Int) ∧ Ps K H H' r D q_ C L S ds c0 c1 c2 cs ls [] ∧ ls.length = i ∧ (∀ c ∈ ls, c.Ok ds.length) ∧ H' W = some (.lst (was.map V.ref)) ∧ Each (WayAt K H') was ws) ⟨_, _, av, [], rfl, by omega, ps9, rfl, fun c h => by simp at h, eW, hW⟩ (fun i σ H' _ ⟨_, _, _, _, _, _, _, _, _, e, _⟩ => SqL.of e) ?_ ?_⟩
      · rintro i x σ H' hx ⟨v10, v12, av, ls, rfl, hav, ps, hll, hok, eW, hW⟩
        obtain ⟨hil, rfl⟩ := ref_get hx
        have hi8 : i < 8 := by rw [hW.1] at hil; omega
        have hwl2 : was.length = ws.length := hW.1
        obtain ⟨as, hC, hE⟩ := ps.l
        have hasl : (as.map V.ref).length = i := by rw [List.length_map, hE.1]; omega
        refine ⟨_, rfl, _, rfl, _, rfl, L, rfl, ⟨_, SqL.of hC⟩, fun N hN => lc_list (K := K) (a := L) (xs := as.map V.ref) (fun j H2 => ∃ us : List Str, Same H' H2 ∧ H2 N = some (.lst (us.map V.str)) ∧ us.length = j) ⟨[], same_upd hN, upd_same, rfl⟩ (fun j H2 _ ⟨_, sm, _⟩ => SqL.of (sm _ _ hC)) ?_ ?_⟩
        · rintro j x H2 hx ⟨us, sm, eN, hul⟩
          obtain ⟨hjl, rfl⟩ := ref_get hx
          obtain ⟨c, hc1, tt, hc2, hc3⟩ := hE.get (List.getElem?_eq_getElem hjl)
          rw [List.length_map] at hasl
          refine ⟨rfl, _, rfl, _, _, _, _, rfl, rfl, sTup sm hc2, at_of (j := 0) rfl rfl, _, eN, by rw [List.length_map]; exact sizes' (by omega), us ++ [c.name], fun x w hx => ?_, by rw [upd_same, List.map_append]; rfl, by rw [List.length_append, List.length_singleton, hul]⟩
          rw [upd_ne (ne_of_none hx hN)]
          exact sm _ _ hx
        rintro H10 ⟨us, s10, eN, hul⟩
        have ps10 := ps.same s10
        have eW10 := s10 _ _ eW
        have hW10 := hW.keep fun a w (z : WayAt K H' a w) => (sTup s10 z : WayAt K H10 a w)
        obtain ⟨xs8, hx8⟩ := ps.rw_.lst
        have nNr : N ≠ r := (ne_of_none hx8 hN).symm
        refine ⟨_, rfl, r, N, D, av, us, ds, rfl, ps10.rw_, by omega, by omega, eN, ps10.d, nNr, nDr, by omega, hdz, fun z H11 b11 rw11 z1 z12 => ?_⟩
        have ps11 := ps10.go pn b11 rw11
        obtain ⟨xs10, hx10⟩ := ps10.rw_.lst
        have eW11 := b11 _ _ nWr eW10
        have hW11 := hW10.keep fun a w (z : WayAt K H10 a w) => (butTup b11 hx10 z : WayAt K H11 a w)
        obtain ⟨wy, hw1, hw2⟩ := hW11.get (List.getElem?_eq_getElem hil)
        have hwo := oW wy (List.mem_of_getElem? hw1)
        obtain ⟨as11, hC11, hE11⟩ := ps11.l
        refine ⟨_, rfl, .inl ⟨rfl, _, SqL.of hC11⟩, _, rfl, _, rfl, _, _, _, _, rfl, rfl, hw2, at_of (j := 0) rfl rfl, _, rfl, _, _, _, _, rfl, rfl, hw2, at_of (j := 1) rfl rfl, _, rfl, _, rfl, _, _, rfl, rfl, r, av + 9, _, rfl, rw11, by omega, by omega, fun kt H12 ks b12 rw12 hks hkok => ⟨(by show 4 ≤ sizeLine; decide), fun w nw => ?_⟩⟩
        have ps12 := ps11.go pn b12 rw12
        obtain ⟨xs11, hx11⟩ := rw11.lst
        have s13 : Same H12 (upd H12 w (.tup [V.str z, V.int wy.1, V.int wy.2, V.ref kt])) := same_upd nw
        have ps13 := ps12.same s13
        have eW13 := s13 _ _ (b12 _ _ nWr eW11)
        have hW13 := (hW11.keep fun a w (z : WayAt K H11 a w) => (butTup b12 hx11 z : WayAt K H12 a w)).keep fun a w (z : WayAt K H12 a w) => (sTup s13 z : WayAt K _ a w)
        obtain ⟨as13, hC13, hE13⟩ := ps13.l
        have hcn : LkAt K (upd H12 w (.tup [V.str z, V.int wy.1, V.int wy.2, V.ref kt])) w ⟨z, wy.1, wy.2, ks⟩ := ⟨kt, SqT.of upd_same, hks.keep s13⟩
        have bL := (But.set : But L (upd H12 w (.tup [V.str z, V.int wy.1, V.int wy.2, V.ref kt])) (upd (upd H12 w (.tup [V.str z, V.int wy.1, V.int wy.2, V.ref kt])) L (.lst (as13.map V.ref ++ [V.ref w]))))
        refine ⟨_, _, _, rfl, rfl, hC13, by rw [List.length_map, hE13.1]; exact sizes' (by omega), ?_⟩
        refine ⟨_, rfl, _, _, rfl, rfl, _, _, _, ls ++ [⟨z, wy.1, wy.2, ks⟩], rfl, by omega, ps13.addL pn hC13 hE13 hcn, by rw [List.length_append, List.length_singleton, hll], fun c hc => ?_, bL _ _ nWL eW13, hW13.keep fun a w (z : WayAt K _ a w) => (butTup bL hC13 z : WayAt K _ a w)⟩
        rcases List.mem_append.mp hc with h | h
        · exact hok c h
        · rw [List.mem_singleton.mp h]
          exact ⟨z12, ⟨hwo.1.1, by rw [hdn]; exact hwo.1.2⟩, ⟨hwo.2.1, by rw [hdn]; exact hwo.2.2⟩, hkok⟩
      · rintro σ H' ⟨v10, v12, av, ls, rfl, hav, ps, hll, hok, eW, hW⟩
        have hwl : (was.map V.ref).length = 2 * c1.toNat := by rw [List.length_map, hW.1, lW]
        exact ⟨_, _, _, av, ls, rfl, by omega, ps, by omega, hok⟩
    · have c' : ¬ c1 > 0 := of_decide_eq_false (Bool.eq_false_iff.mpr c)
      exact ⟨_, _, none, av, [], rfl, by omega, ps, by show (0 : Int) = _; omega, fun c h => by simp at h⟩
  clear ps v10 v11 av hav av7
  rintro σ H9 ⟨v10, v11, v12, av, ls, rfl, hav, ps, hll, hlok⟩
  -- the sources
  refine ⟨_, rfl, _, _, _, _, rfl, rfl, SqL.of ps.q, at_of (j := 2) rfl rfl, _, rfl, by omega, by omega, for_range (lo := 0) (n := c2.toNat) (fun i σ H' => ∃ k v10, ∃ (av : Int) (ss : List Sr), σ = [some (.ref r), some (.int m), some (.ref D), k, some (.ref q_), some (.ref C), some (.ref L), some (.ref S), some (.int av), none, v10, v11, v12, none, none, none] ∧ av = 7 + c0 + 2 * c1 + (i : Int) ∧ Ps K H H' r D q_ C L S ds c0 c1 c2 cs ls ss ∧ ss.length = i ∧ ∀ c ∈ ss, c.Ok ds.length) ⟨_, _, av, [], rfl, by omega, ps, rfl, fun c h => by simp at h⟩ ?_ ?_⟩
  · rintro i σ H' hi ⟨k, v10, av, ss, rfl, hav, ps, hcl2, hok⟩
    obtain ⟨as, hC, hE⟩ := ps.s
    have hasl : (as.map V.ref).length = i := by rw [List.length_map, hE.1]; omega
    refine ⟨_, rfl, _, rfl, _, rfl, S, rfl, ⟨_, SqL.of hC⟩, fun N hN => lc_list (K := K) (a := S) (xs := as.map V.ref) (fun j H2 => ∃ us : List Str, Same H' H2 ∧ H2 N = some (.lst (us.map V.str)) ∧ us.length = j) ⟨[], same_upd hN, upd_same, rfl⟩ (fun j H2 _ ⟨_, sm, _⟩ => SqL.of (sm _ _ hC)) ?_ ?_⟩
    · rintro j x H2 hx ⟨us, sm, eN, hul⟩
      obtain ⟨hjl, rfl⟩ := ref_get hx
      obtain ⟨c, hc1, tt, hc2, hc3⟩ := hE.get (List.getElem?_eq_getElem hjl)
      rw [List.length_map] at hasl
      refine ⟨rfl, _, rfl, _, _, _, _, rfl, rfl, sTup sm hc2, at_of (j := 0) rfl rfl, _, eN, by rw [List.length_map]; exact sizes' (by omega), us ++ [c.name], fun x w hx => ?_, by rw [upd_same, List.map_append]; rfl, by rw [List.length_append, List.length_singleton, hul]⟩
      rw [upd_ne (ne_of_none hx hN)]
      exact sm _ _ hx
    rintro H10 ⟨us, s10, eN, hul⟩
    have ps10 := ps.same s10
    obtain ⟨xs8, hx8⟩ := ps.rw_.lst
    have nNr : N ≠ r := (ne_of_none hx8 hN).symm
    refine ⟨_, rfl, r, N, D, av, us, ds, rfl, ps10.rw_, by omega, by omega, eN, ps10.d, nNr, nDr, by omega, hdz, fun z H11 b11 rw11 z1 z12 => ?_⟩
    have ps11 := ps10.go pn b11 rw11
    obtain ⟨as11, hC11, hE11⟩ := ps11.s
    refine ⟨_, rfl, .inl ⟨rfl, _, SqL.of hC11⟩, _, rfl, _, rfl, _, rfl, _, rfl, r, av, m, rfl, rw11, by omega, by omega, by omega, by omega, fun dv H12 dv0 dv1 b12 rw12 => ?_⟩
    have ps12 := ps11.go pn b12 rw12
    refine ⟨_, rfl, _, rfl, _, _, rfl, rfl, r, av + 9, _, rfl, rw12, by omega, by omega, fun kt H13 ks b13 rw13 hks hkok => ⟨(by show 3 ≤ sizeLine; decide), fun w nw => ?_⟩⟩
    have ps13 := ps12.go pn b13 rw13
    have s14 : Same H13 (upd H13 w (.tup [V.str z, V.int dv, V.ref kt])) := same_upd nw
    have ps14 := ps13.same s14
    obtain ⟨as14, hC14, hE14⟩ := ps14.s
    have hcn : SrAt K (upd H13 w (.tup [V.str z, V.int dv, V.ref kt])) w ⟨z, dv, ks⟩ := ⟨kt, SqT.of upd_same, hks.keep s14⟩
    refine ⟨_, _, _, rfl, rfl, hC14, by rw [List.length_map, hE14.1]; exact sizes' (by omega), ?_⟩
    refine ⟨_, rfl, _, _, rfl, rfl, _, _, _, ss ++ [⟨z, dv, ks⟩], rfl, by omega, ps14.addS pn hC14 hE14 hcn, by rw [List.length_append, List.length_singleton, hcl2], fun c hc => ?_⟩
    rcases List.mem_append.mp hc with h | h
    · exact hok c h
    · rw [List.mem_singleton.mp h]
      exact ⟨z12, ⟨dv0, by rw [hdn]; exact dv1⟩, hkok⟩
  rintro σ H10 ⟨k2, v10', av2, ss, rfl, hav2, ps2, hsl, hsok⟩
  obtain ⟨aC, hC, hEC⟩ := ps2.c
  obtain ⟨aL, hL, hEL⟩ := ps2.l
  obtain ⟨aS, hS, hES⟩ := ps2.s
  -- faults
  refine ⟨_, rfl, r, 0, 3, rfl, ps2.rw_, by decide, by decide, by decide, by decide, fun fg H11 fg0 fg1 b11 rw11 => ?_⟩
  have ps11 := ps2.go pn b11 rw11
  obtain ⟨aC, hC, hEC⟩ := ps11.c
  obtain ⟨aL, hL, hEL⟩ := ps11.l
  obtain ⟨aS, hS, hES⟩ := ps11.s
  refine ⟨_, rfl, _, _, rfl, .inl (SqL.of hC), _, rfl, _, _, rfl, .inl (SqL.of hL), _, _, rfl, rfl, _, rfl, _, _, rfl, .inl (SqL.of hS), _, _, rfl, rfl, _, _, rfl, rfl, _, _, rfl, ?_⟩
  refine ⟨_, rfl, _, rfl, _, rfl, _, rfl, _, rfl, (by show 5 ≤ sizeLine; decide), fun t nt => ?_⟩
  have e1 : (aC.map V.ref).length = cs.length := by rw [List.length_map, hEC.1]
  have e2 : (aL.map V.ref).length = ls.length := by rw [List.length_map, hEL.1]
  have e3 : (aS.map V.ref).length = ss.length := by rw [List.length_map, hES.1]
  have hcl' : (cs.length : Int) = c0 := by omega
  have hsl' : (ss.length : Int) = c2 := by omega
  generalize hfv : (if ((aC.map V.ref).length : Int) + ((aL.map V.ref).length : Int) + ((aS.map V.ref).length : Int) - 1 < fg then ((aC.map V.ref).length : Int) + ((aL.map V.ref).length : Int) + ((aS.map V.ref).length : Int) - 1 else fg) = fv
  rw [e1, e2, e3] at hfv
  have fv0 : 0 ≤ fv ∧ fv ≤ 2 ∧ fv < (cs.length : Int) + ls.length + ss.length := by
    rw [← hfv]
    split <;> omega
  have s12 : Same H11 (upd H11 t (.tup [.ref D, .ref C, .ref L, .ref S, .int fv])) := same_upd nt
  have ps12 := ps11.same s12
  exact q t _ ⟨ds, cs, ls, ss, fv⟩ ps12.b ⟨D, C, L, S, SqT.of upd_same, ⟨ps12.d, ps12.c, ps12.l, ps12.s⟩⟩ ⟨hdl6, fun z hz => (hdz z hz).2, by show cs.length ≤ 9; omega, by show ls.length ≤ 9; omega, by show ss.length ≤ 9; omega, hcok, hlok, hsok, fv0.1, fv0.2.1⟩ (by show fv < ((cs.length + ls.length + ss.length : Nat) : Int); omega)
def sp__law_whole (K : PySem.W.Frag) : Sp := fun vs H Q _ => ∃ (i : Int), vs = [.int i] ∧ Q (.bl true) H
theorem ok__law_whole {f : Addr} {fd : FuncData} (D : Df K mg "_law_whole" s__law_whole ["told"] f fd) (T : Txt K mg) : FnOk P w K mg base CX0 1 f fd ["told"] (sp__law_whole K) := by
  refine D.F.ok sc__law_whole (fun vs H Q E h => ?_) (fun cdv A outer s H vs Q E hr h => ?_)
  · obtain ⟨i, rfl, _⟩ := h
    rfl
  obtain ⟨i, rfl, q⟩ := h
  refine ⟨_, (pss_one (ps_ret (pe_and (pe_callB call_isi rfl T.isinstance (by decide +kernel) (pa_cons (pv 0) (pa_cons (pe_bltn (v := V.ty "int") (by rfl) T.int (by decide +kernel) rfl) pa_nil))) (pe_one (pe_not (pe_callB call_isi rfl T.isinstance (by decide +kernel) (pa_cons (pv 0) (pa_cons (pe_bltn (v := V.ty "bool") (by rfl) T.bool (by decide +kernel) rfl) pa_nil)))))))), ?_⟩
  exact ⟨_, rfl, _, _, _, _, _, rfl, ClsV.ty "int", .base (TyOf.int _), kit_ty (r := true) (by decide +kernel), _, rfl, iteT ⟨_, rfl, _, _, _, _, _, rfl, ClsV.ty "bool", .base (TyOf.int _), kit_ty (r := false) (by decide +kernel), _, rfl, q⟩⟩
/-- a frame as an instance -/
def FrAt (K : PySem.W.Frag) (CF : Addr) (H : Hp) (p : Addr) (F : Fm) : Prop := ∃ dx d c l s, H p = some (.ins CF dx (ff_Frame (.ref d) (.ref c) (.ref l) (.ref s) (.int F.faults))) ∧ FmIn K H d c l s F
theorem FrAt.keep {K : PySem.W.Frag} {CF : Addr} {H H' : Hp} {p : Addr} {F : Fm} (e : Same H H') (h : FrAt K CF H p F) : FrAt K CF H' p F := by
  obtain ⟨dx, d, c, l, s, h1, h2⟩ := h
  exact ⟨dx, d, c, l, s, e _ _ h1, h2.keep e⟩
def sp__law_fields (K : PySem.W.Frag) (CF : Addr) : Sp := fun vs H Q _ => ∃ (p t : Addr) (F : Fm), vs = [.ref p, .ref t] ∧ FrAt K CF H p F ∧ FmAt K H t F ∧ Q (.bl true) H
theorem ok__law_fields {f : Addr} {fd : FuncData} {CF : Addr} (TF : Ck_Frame K mg CF) (D : Df K mg "_law_fields" s__law_fields ["told", "frame"] f fd) (T : Txt K mg) {f__law_whole : Addr} {fd__law_whole : FuncData} (D__law_whole : Df K mg "_law_whole" s__law_whole ["told"] f__law_whole fd__law_whole) (G__law_whole : FnOk P w K mg base CX0 1 f__law_whole fd__law_whole ["told"] (sp__law_whole K)) : FnOk P w K mg base CX0 2 f fd ["told", "frame"] (sp__law_fields K CF) := by
  refine D.F.ok sc__law_fields (fun vs H Q E h => ?_) (fun cdv A outer s H vs Q E hr h => ?_)
  · obtain ⟨p, t, F, rfl, _⟩ := h
    rfl
  obtain ⟨p, t, F, rfl, hR, hF, q⟩ := h
  refine ⟨_, (pss_cons (ps_if (PW.pt (pw_or (pt_cmpR (op_neP hr.units) (pe_fld (pv 0) rfl) (pe_ix ix_tup (pv 1) pe_int (fun _ _ => rfl)) (nomark _)) (pw_or (pt_cmpR (op_neP hr.units) (pe_fld (pv 0) rfl) (pe_ix ix_tup (pv 1) pe_int (fun _ _ => rfl)) (nomark _)) (pw_or (pt_cmpR (op_neP hr.units) (pe_fld (pv 0) rfl) (pe_ix ix_tup (pv 1) pe_int (fun _ _ => rfl)) (nomark _)) (pw_or1 (pt_cmpR (op_neP hr.units) (pe_fld (pv 0) rfl) (pe_ix ix_tup (pv 1) pe_int (fun _ _ => rfl)) (nomark _)))))))
      (pss_one (ps_ret pe_bl))
      pss_nil)
    (pss_one (ps_ret (pe_and (pe_call G__law_whole (hr.mono (by decide)) rfl D__law_whole.m D__law_whole.F.kp D__law_whole.b .nil pass0 (pa_cons (pe_fld (pv 0) rfl) pa_nil)) (pe_one (pe_cmpR op_eq (pe_fld (pv 0) rfl) (pe_ix ix_tup (pv 1) pe_int (fun _ _ => rfl)) (nomark _))))))), ?_⟩
  obtain ⟨dx, d1, c1, l1, s1, hp, hf⟩ := hR
  obtain ⟨d, c, l, s, ht, hg⟩ := hF
  obtain ⟨f1, ⟨bc, f2, g1⟩, ⟨bl, f3, g2⟩, ⟨bs, f4, g3⟩⟩ := hf
  obtain ⟨hd, ⟨ac, hc, h1⟩, ⟨al, hl, h2⟩, ⟨as, hs, h3⟩⟩ := hg
  refine ⟨_, rfl, p, CF, dx, _, _, rfl, hp, TF.cl, TF.n_devices, lk_Frame_devices, _, rfl, _, _, _, _, rfl, rfl, ht, at_of (j := 0) rfl rfl, PyData.list (F.devices.map PyData.str), PyData.list (F.devices.map PyData.str), strs_dp (SqL.of f1), strs_dp (SqL.of hd), strl_plain _, strl_plain _, strl_depth _, _, rfl, ?_⟩
  rw [SeqAt.eqv_refl_plain _ (strl_plain F.devices)]
  refine iteF ?_
  refine ⟨_, rfl, p, CF, dx, _, _, rfl, hp, TF.cl, TF.n_clocks, lk_Frame_clocks, _, rfl, _, _, _, _, rfl, rfl, ht, at_of (j := 1) rfl rfl, PyData.list (F.clocks.map clP), PyData.list (F.clocks.map clP), .lst (SqL.of f2) (all_dp (fun _ _ z => cl_dp z) g1), .lst (SqL.of hc) (all_dp (fun _ _ z => cl_dp z) h1), all_plain cl_plain _, all_plain cl_plain _, list_depth cl_depth _, _, rfl, ?_⟩
  rw [list_eqv cl_plain]
  refine iteF ?_
  refine ⟨_, rfl, p, CF, dx, _, _, rfl, hp, TF.cl, TF.n_links, lk_Frame_links, _, rfl, _, _, _, _, rfl, rfl, ht, at_of (j := 2) rfl rfl, PyData.list (F.links.map lkP), PyData.list (F.links.map lkP), .lst (SqL.of f3) (all_dp (fun _ _ z => lk_dp z) g2), .lst (SqL.of hl) (all_dp (fun _ _ z => lk_dp z) h2), all_plain lk_plain _, all_plain lk_plain _, list_depth lk_depth _, _, rfl, ?_⟩
  rw [list_eqv lk_plain]
  refine iteF ?_
  refine ⟨_, rfl, p, CF, dx, _, _, rfl, hp, TF.cl, TF.n_sources, lk_Frame_sources, _, rfl, _, _, _, _, rfl, rfl, ht, at_of (j := 3) rfl rfl, PyData.list (F.sources.map srP), PyData.list (F.sources.map srP), .lst (SqL.of f4) (all_dp (fun _ _ z => sr_dp z) g3), .lst (SqL.of hs) (all_dp (fun _ _ z => sr_dp z) h3), all_plain sr_plain _, all_plain sr_plain _, list_depth sr_depth _, _, rfl, ?_⟩
  rw [list_eqv sr_plain]
  refine iteF ?_
  refine ⟨_, rfl, p, CF, dx, _, _, rfl, hp, TF.cl, TF.n_faults, lk_Frame_faults, F.faults, rfl, _, rfl, iteT ?_⟩
  refine ⟨_, rfl, p, CF, dx, _, _, rfl, hp, TF.cl, TF.n_faults, lk_Frame_faults, _, rfl, _, _, _, _, rfl, rfl, ht, at_of (j := 4) rfl rfl, rfl, ?_⟩
  rw [decide_eq_true (rfl : V.int F.faults = V.int F.faults)]
  exact q
def sp_Frame_part_count (K : PySem.W.Frag) (CF : Addr) : Sp := fun vs H Q _ => ∃ (p : Addr) (F : Fm), vs = [.ref p] ∧ FrAt K CF H p F ∧ Q (.int ((F.clocks.length : Int) + F.links.length + F.sources.length)) H
theorem ok_Frame_part_count {f : Addr} {fd : FuncData} {CF : Addr} (TF : Ck_Frame K mg CF) (D : Pr K CF "part_count" "Frame.part_count" s_Frame_part_count ["self"] f fd) (T : Txt K mg) : FnOk P w K mg base CX0 1 f fd ["self"] (sp_Frame_part_count K CF) := by
  refine D.F.ok sc_Frame_part_count (fun vs H Q E h => ?_) (fun cdv A outer s H vs Q E hr h => ?_)
  · obtain ⟨p, F, rfl, _⟩ := h
    rfl
  obtain ⟨p, F, rfl, ⟨dx, d, c, l, s, hp, hf⟩, q⟩ := h
  refine ⟨_, (pss_one (ps_ret (pe_op op_add (pe_op op_add (pe_callB call_len_seq rfl T.len PySem.boot_len (pa_cons (pe_fld (pv 0) rfl) pa_nil)) (pe_callB call_len_seq rfl T.len PySem.boot_len (pa_cons (pe_fld (pv 0) rfl) pa_nil))) (pe_callB call_len_seq rfl T.len PySem.boot_len (pa_cons (pe_fld (pv 0) rfl) pa_nil))))), ?_⟩
  obtain ⟨hd, ⟨ac, hc, hEc⟩, ⟨al, hl, hEl⟩, ⟨as, hs, hEs⟩⟩ := hf
  have e1 : (ac.map V.ref).length = F.clocks.length := by rw [List.length_map, hEc.1]
  have e2 : (al.map V.ref).length = F.links.length := by rw [List.length_map, hEl.1]
  have e3 : (as.map V.ref).length = F.sources.length := by rw [List.length_map, hEs.1]
  refine ⟨_, rfl, p, CF, dx, _, _, rfl, hp, TF.cl, TF.n_clocks, lk_Frame_clocks, _, _, rfl, .inl (SqL.of hc), _, rfl, p, CF, dx, _, _, rfl, hp, TF.cl, TF.n_links, lk_Frame_links, _, _, rfl, .inl (SqL.of hl), _, _, rfl, rfl, _, rfl, p, CF, dx, _, _, rfl, hp, TF.cl, TF.n_sources, lk_Frame_sources, _, _, rfl, .inl (SqL.of hs), _, _, rfl, rfl, ?_⟩
  rw [e1, e2, e3]
  exact q
def sp_Frame_link_part (K : PySem.W.Frag) (CF : Addr) : Sp := fun vs H Q _ => ∃ (p : Addr) (F : Fm) (i : Int), vs = [.ref p, .int i] ∧ FrAt K CF H p F ∧ Q (.int ((F.clocks.length : Int) + i)) H
theorem ok_Frame_link_part {f : Addr} {fd : FuncData} {CF : Addr} (TF : Ck_Frame K mg CF) (D : Mt K CF "link_part" "Frame.link_part" s_Frame_link_part ["self", "link"] f fd) (T : Txt K mg) : FnOk P w K mg base CX0 1 f fd ["self", "link"] (sp_Frame_link_part K CF) := by
  refine D.F.ok sc_Frame_link_part (fun vs H Q E h => ?_) (fun cdv A outer s H vs Q E hr h => ?_)
  · obtain ⟨p, F, i, rfl, _⟩ := h
    rfl
  obtain ⟨p, F, i, rfl, ⟨dx, d, c, l, s, hp, hf⟩, q⟩ := h
  refine ⟨_, (pss_one (ps_ret (pe_op op_add (pe_callB call_len_seq rfl T.len PySem.boot_len (pa_cons (pe_fld (pv 0) rfl) pa_nil)) (pv 1)))), ?_⟩
  obtain ⟨hd, ⟨ac, hc, hEc⟩, ⟨al, hl, hEl⟩, ⟨as, hs, hEs⟩⟩ := hf
  have e1 : (ac.map V.ref).length = F.clocks.length := by rw [List.length_map, hEc.1]
  have e2 : (al.map V.ref).length = F.links.length := by rw [List.length_map, hEl.1]
  have e3 : (as.map V.ref).length = F.sources.length := by rw [List.length_map, hEs.1]
  refine ⟨_, rfl, p, CF, dx, _, _, rfl, hp, TF.cl, TF.n_clocks, lk_Frame_clocks, _, _, rfl, .inl (SqL.of hc), _, rfl, _, _, rfl, rfl, ?_⟩
  rw [e1]
  exact q
def sp_Frame_source_part (K : PySem.W.Frag) (CF : Addr) : Sp := fun vs H Q _ => ∃ (p : Addr) (F : Fm) (i : Int), vs = [.ref p, .int i] ∧ FrAt K CF H p F ∧ Q (.int ((F.clocks.length : Int) + F.links.length + i)) H
theorem ok_Frame_source_part {f : Addr} {fd : FuncData} {CF : Addr} (TF : Ck_Frame K mg CF) (D : Mt K CF "source_part" "Frame.source_part" s_Frame_source_part ["self", "source"] f fd) (T : Txt K mg) : FnOk P w K mg base CX0 1 f fd ["self", "source"] (sp_Frame_source_part K CF) := by
  refine D.F.ok sc_Frame_source_part (fun vs H Q E h => ?_) (fun cdv A outer s H vs Q E hr h => ?_)
  · obtain ⟨p, F, i, rfl, _⟩ := h
    rfl
  obtain ⟨p, F, i, rfl, ⟨dx, d, c, l, s, hp, hf⟩, q⟩ := h
  refine ⟨_, (pss_one (ps_ret (pe_op op_add (pe_op op_add (pe_callB call_len_seq rfl T.len PySem.boot_len (pa_cons (pe_fld (pv 0) rfl) pa_nil)) (pe_callB call_len_seq rfl T.len PySem.boot_len (pa_cons (pe_fld (pv 0) rfl) pa_nil))) (pv 1)))), ?_⟩
  obtain ⟨hd, ⟨ac, hc, hEc⟩, ⟨al, hl, hEl⟩, ⟨as, hs, hEs⟩⟩ := hf
  have e1 : (ac.map V.ref).length = F.clocks.length := by rw [List.length_map, hEc.1]
  have e2 : (al.map V.ref).length = F.links.length := by rw [List.length_map, hEl.1]
  have e3 : (as.map V.ref).length = F.sources.length := by rw [List.length_map, hEs.1]
  refine ⟨_, rfl, p, CF, dx, _, _, rfl, hp, TF.cl, TF.n_clocks, lk_Frame_clocks, _, _, rfl, .inl (SqL.of hc), _, rfl, p, CF, dx, _, _, rfl, hp, TF.cl, TF.n_links, lk_Frame_links, _, _, rfl, .inl (SqL.of hl), _, _, rfl, rfl, _, rfl, _, _, rfl, rfl, ?_⟩
  rw [e1, e2]
  exact q
def sp__law_numbers (K : PySem.W.Frag) (CF : Addr) : Sp := fun vs H Q _ => ∃ (p t : Addr) (F : Fm), vs = [.ref p, .ref t] ∧ FrAt K CF H p F ∧ FmAt K H t F ∧ F.Ok ∧ Q (.bl true) H
theorem ok__law_numbers {f : Addr} {fd : FuncData} {CF : Addr} (TF : Ck_Frame K mg CF) (D : Df K mg "_law_numbers" s__law_numbers ["told", "frame"] f fd) (T : Txt K mg) {f__law_whole : Addr} {fd__law_whole : FuncData} (D__law_whole : Df K mg "_law_whole" s__law_whole ["told"] f__law_whole fd__law_whole) (G__law_whole : FnOk P w K mg base CX0 1 f__law_whole fd__law_whole ["told"] (sp__law_whole K)) {f_Frame_part_count : Addr} {fd_Frame_part_count : FuncData} (M_Frame_part_count : Pr K CF "part_count" "Frame.part_count" s_Frame_part_count ["self"] f_Frame_part_count fd_Frame_part_count) (G_Frame_part_count : FnOk P w K mg base CX0 1 f_Frame_part_count fd_Frame_part_count ["self"] (sp_Frame_part_count K CF)) {f_Frame_link_part : Addr} {fd_Frame_link_part : FuncData} (M_Frame_link_part : Mt K CF "link_part" "Frame.link_part" s_Frame_link_part ["self", "link"] f_Frame_link_part fd_Frame_link_part) (G_Frame_link_part : FnOk P w K mg base CX0 1 f_Frame_link_part fd_Frame_link_part ["self", "link"] (sp_Frame_link_part K CF)) {f_Frame_source_part : Addr} {fd_Frame_source_part : FuncData} (M_Frame_source_part : Mt K CF "source_part" "Frame.source_part" s_Frame_source_part ["self", "source"] f_Frame_source_part fd_Frame_source_part) (G_Frame_source_part : FnOk P w K mg base CX0 1 f_Frame_source_part fd_Frame_source_part ["self", "source"] (sp_Frame_source_part K CF)) : FnOk P w K mg base CX0 3 f fd ["told", "frame"] (sp__law_numbers K CF) := by
  refine D.F.ok sc__law_numbers (fun vs H Q E h => ?_) (fun cdv A outer s H vs Q E hr h => ?_)
  · obtain ⟨p, t, F, rfl, _⟩ := h
    rfl
  obtain ⟨p, t, F, rfl, hR, hF, hk, q⟩ := h
  refine ⟨_, (pss_cons (ps_set (i := 2) sc__law_numbers.nd rfl (Or.inl rfl) (pe_op op_add (pe_op op_add (pe_callB call_len_seq rfl T.len PySem.boot_len (pa_cons (pe_ix ix_tup (pv 1) pe_int (fun _ _ => rfl)) pa_nil)) (pe_callB call_len_seq rfl T.len PySem.boot_len (pa_cons (pe_ix ix_tup (pv 1) pe_int (fun _ _ => rfl)) pa_nil))) (pe_callB call_len_seq rfl T.len PySem.boot_len (pa_cons (pe_ix ix_tup (pv 1) pe_int (fun _ _ => rfl)) pa_nil))))
    (pss_cons (ps_if (PW.pt (pw_or (pt_not (pt_val (pe_call G__law_whole (hr.mono (by decide)) rfl D__law_whole.m D__law_whole.F.kp D__law_whole.b .nil pass0 (pa_cons (pe_propE (pv 0) TF.cl M_Frame_part_count.m G_Frame_part_count (hr.mono (by decide)) M_Frame_part_count.b .nil pass0 rfl) pa_nil)))) (pw_or1 (pt_cmpR op_ne (pe_propE (pv 0) TF.cl M_Frame_part_count.m G_Frame_part_count (hr.mono (by decide)) M_Frame_part_count.b .nil pass0 rfl) (pv 2) (nomark _)))))
      (pss_one (ps_ret pe_bl))
      pss_nil)
    (pss_cons (ps_for PassesOwn.never rfl (pi_range1 rfl T.range (pa_cons (pe_callB call_len_seq rfl T.len PySem.boot_len (pa_cons (pe_ix ix_tup (pv 1) pe_int (fun _ _ => rfl)) pa_nil)) pa_nil)) (pg_name (i := 3) sc__law_numbers.nd rfl (Or.inl rfl))
      (pss_one (ps_if (PW.pt (pw_or (pt_not (pt_val (pe_call G__law_whole (hr.mono (by decide)) rfl D__law_whole.m D__law_whole.F.kp D__law_whole.b .nil pass0 (pa_cons (pe_meth (pv 0) TF.cl M_Frame_link_part.m G_Frame_link_part (hr.mono (by decide)) M_Frame_link_part.b .nil pass0 (pa_cons (pv 3) pa_nil)) pa_nil)))) (pw_or1 (pt_cmpR op_ne (pe_meth (pv 0) TF.cl M_Frame_link_part.m G_Frame_link_part (hr.mono (by decide)) M_Frame_link_part.b .nil pass0 (pa_cons (pv 3) pa_nil)) (pe_op op_add (pe_callB call_len_seq rfl T.len PySem.boot_len (pa_cons (pe_ix ix_tup (pv 1) pe_int (fun _ _ => rfl)) pa_nil)) (pv 3)) (nomark _)))))
      (pss_one (ps_ret pe_bl))
      pss_nil)))
    (pss_cons (ps_for PassesOwn.never rfl (pi_range1 rfl T.range (pa_cons (pe_callB call_len_seq rfl T.len PySem.boot_len (pa_cons (pe_ix ix_tup (pv 1) pe_int (fun _ _ => rfl)) pa_nil)) pa_nil)) (pg_name (i := 3) sc__law_numbers.nd rfl (Or.inl rfl))
      (pss_one (ps_if (PW.pt (pw_or (pt_not (pt_val (pe_call G__law_whole (hr.mono (by decide)) rfl D__law_whole.m D__law_whole.F.kp D__law_whole.b .nil pass0 (pa_cons (pe_meth (pv 0) TF.cl M_Frame_source_part.m G_Frame_source_part (hr.mono (by decide)) M_Frame_source_part.b .nil pass0 (pa_cons (pv 3) pa_nil)) pa_nil)))) (pw_or1 (pt_cmpR op_ne (pe_meth (pv 0) TF.cl M_Frame_source_part.m G_Frame_source_part (hr.mono (by decide)) M_Frame_source_part.b .nil pass0 (pa_cons (pv 3) pa_nil)) (pe_op op_add (pe_op op_add (pe_callB call_len_seq rfl T.len PySem.boot_len (pa_cons (pe_ix ix_tup (pv 1) pe_int (fun _ _ => rfl)) pa_nil)) (pe_callB call_len_seq rfl T.len PySem.boot_len (pa_cons (pe_ix ix_tup (pv 1) pe_int (fun _ _ => rfl)) pa_nil))) (pv 3)) (nomark _)))))
      (pss_one (ps_ret pe_bl))
      pss_nil)))
    (pss_one (ps_ret pe_bl)))))), ?_⟩
  obtain ⟨dx, d1, c1, l1, s1, hp, hf⟩ := id hR
  obtain ⟨d, c, l, s, ht, hg⟩ := hF
  obtain ⟨hd, ⟨ac, hc, hEc⟩, ⟨al, hl, hEl⟩, ⟨as, hs, hEs⟩⟩ := hg
  have e1 : (ac.map V.ref).length = F.clocks.length := by rw [List.length_map, hEc.1]
  have e2 : (al.map V.ref).length = F.links.length := by rw [List.length_map, hEl.1]
  have e3 : (as.map V.ref).length = F.sources.length := by rw [List.length_map, hEs.1]
  have k1 := hk.cl; have k2 := hk.ll; have k3 := hk.sl
  refine ⟨_, rfl, _, _, _, _, rfl, rfl, ht, at_of (j := 1) rfl rfl, _, _, rfl, .inl (SqL.of hc), _, rfl, _, _, _, _, rfl, rfl, ht, at_of (j := 2) rfl rfl, _, _, rfl, .inl (SqL.of hl), _, _, rfl, rfl, _, rfl, _, _, _, _, rfl, rfl, ht, at_of (j := 3) rfl rfl, _, _, rfl, .inl (SqL.of hs), _, _, rfl, rfl, ?_⟩
  refine ⟨_, rfl, p, dx, _, rfl, hp, p, F, rfl, hR, _, rfl, _, rfl, iteF ⟨_, rfl, p, dx, _, rfl, hp, p, F, rfl, hR, _, rfl, rfl, _, rfl, ite2 (fun g => absurd (by omega) (vne_int g)) (fun _ => ?_)⟩⟩
  refine ⟨_, rfl, _, _, _, _, rfl, rfl, ht, at_of (j := 2) rfl rfl, _, _, rfl, .inl (SqL.of hl), _, rfl, by omega, by omega, for_range (lo := 0) (n := (((al.map V.ref).length : Nat) : Int).toNat) (fun i σ H' => ∃ v3, σ = [some (.ref p), some (.ref t), some (.int (((ac.map V.ref).length : Int) + ((al.map V.ref).length : Int) + ((as.map V.ref).length : Int))), v3] ∧ H = H') ⟨_, rfl, rfl⟩ ?_ ?_⟩
  · rintro i σ H' hi ⟨v3, rfl, rfl⟩
    refine ⟨_, rfl, p, dx, _, rfl, hp, no_Frame, _, rfl, p, F, _, rfl, hR, _, rfl, _, rfl, iteF ⟨_, rfl, p, dx, _, rfl, hp, no_Frame, _, rfl, p, F, _, rfl, hR, _, rfl, _, _, _, _, rfl, rfl, ht, at_of (j := 1) rfl rfl, _, _, rfl, .inl (SqL.of hc), _, rfl, _, _, rfl, rfl, rfl, _, rfl, ite2 (fun g => absurd (by omega) (vne_int g)) (fun _ => ⟨_, rfl, rfl⟩)⟩⟩
  rintro σ H' ⟨v3, rfl, rfl⟩
  refine ⟨_, rfl, _, _, _, _, rfl, rfl, ht, at_of (j := 3) rfl rfl, _, _, rfl, .inl (SqL.of hs), _, rfl, by omega, by omega, for_range (lo := 0) (n := (((as.map V.ref).length : Nat) : Int).toNat) (fun i σ H' => ∃ v3, σ = [some (.ref p), some (.ref t), some (.int (((ac.map V.ref).length : Int) + ((al.map V.ref).length : Int) + ((as.map V.ref).length : Int))), v3] ∧ H = H') ⟨_, rfl, rfl⟩ ?_ ?_⟩
  · rintro i σ H' hi ⟨v3, rfl, rfl⟩
    refine ⟨_, rfl, p, dx, _, rfl, hp, no_Frame, _, rfl, p, F, _, rfl, hR, _, rfl, _, rfl, iteF ⟨_, rfl, p, dx, _, rfl, hp, no_Frame, _, rfl, p, F, _, rfl, hR, _, rfl, _, _, _, _, rfl, rfl, ht, at_of (j := 1) rfl rfl, _, _, rfl, .inl (SqL.of hc), _, rfl, _, _, _, _, rfl, rfl, ht, at_of (j := 2) rfl rfl, _, _, rfl, .inl (SqL.of hl), _, _, rfl, rfl, _, rfl, _, _, rfl, rfl, rfl, _, rfl, ite2 (fun g => absurd (by omega) (vne_int g)) (fun _ => ⟨_, rfl, rfl⟩)⟩⟩
  rintro σ H' ⟨v3, rfl, rfl⟩
  exact q
def sp_Frame_clocks_of (K : PySem.W.Frag) (CF : Addr) : Sp := fun vs H Q _ => ∃ (p : Addr) (F : Fm) (j : Int), vs = [.ref p, .int j] ∧ FrAt K CF H p F ∧ F.clocks.length ≤ 100 ∧ ∀ (l : Addr) (H' : Hp), Same H H' → H l = none → H' l = some (.lst ((ckN F.clocks j F.clocks.length).map V.int)) → Q (.ref l) H'
theorem ok_Frame_clocks_of {f : Addr} {fd : FuncData} {CF : Addr} (TF : Ck_Frame K mg CF) (D : Mt K CF "clocks_of" "Frame.clocks_of" s_Frame_clocks_of ["self", "device"] f fd) (T : Txt K mg) : FnOk P w K mg base CX0 1 f fd ["self", "device"] (sp_Frame_clocks_of K CF) := by
  refine D.F.ok sc_Frame_clocks_of (fun vs H Q E h => ?_) (fun cdv A outer s H vs Q E hr h => ?_)
  · obtain ⟨p, F, j, rfl, _⟩ := h
    rfl
  obtain ⟨p, F, j, rfl, ⟨dx, d, c, l, s, hp, hf⟩, h100, q⟩ := h
  refine ⟨_, (pss_one (ps_ret (pe_lc (own := [("number", 2), ("clock", 3)]) (g := (gTup K 2 (gCons (gName 2) (gCons (gName 3) gNil)))) (tt := _) rfl sc_Frame_clocks_of.nd (pi_enum rfl T.enumerate (pa_cons (pe_fld (pv 0) rfl) pa_nil)) (blkOk_by (own := [("number", 2), ("clock", 3)]) (N := nm_Frame_clocks_of) (sc := defScope s_Frame_clocks_of) (by decide +kernel)) (fun _ _ _ _ _ => (pg_tup rfl (pgs_cons (pg_name (i := 2) sc_Frame_clocks_of.nd rfl (Or.inl rfl)) (pgs_cons (pg_name (i := 3) sc_Frame_clocks_of.nd rfl (Or.inl rfl)) pgs_nil)))) (fun _ _ _ _ _ => (pts_one (pt_cmpR op_eq (pe_ix (r := rIxT K) ix_tup (pv 3) pe_int (fun _ _ => rfl)) (pv 1) (nomark _)))) (fun _ _ _ _ _ => (pv 2))))), ?_⟩
  obtain ⟨hd, ⟨ac, hc, hEc⟩, _, _⟩ := hf
  have e1 : (ac.map V.ref).length = F.clocks.length := by rw [List.length_map, hEc.1]
  refine ⟨_, rfl, p, CF, dx, _, _, rfl, hp, TF.cl, TF.n_clocks, lk_Frame_clocks, c, _, rfl, SqL.of hc, fun D hD => lc_it (walk_enum (K := K) (a := c) (xs := ac.map V.ref)) (fun i H' => Same H H' ∧ H' D = some (.lst ((ckN F.clocks j i).map V.int))) ⟨same_upd hD, upd_same⟩ (fun i H' _ p => SqL.of (p.1 _ _ hc)) ?_ ?_⟩
  · rintro i x H1 H2 hi ⟨sm, eD⟩ ⟨T, x1, x2, rfl, nT, rfl, h1, h2⟩
    cases h1
    obtain ⟨hil, rfl⟩ := ref_get h2
    obtain ⟨C, hc1, t, hc2, hc3⟩ := hEc.get (List.getElem?_eq_getElem hil)
    have s2 : Same H1 (upd H1 T (.tup [.int (i : Nat), .ref ac[i]])) := same_upd nT
    have e2 : (upd H1 T (.tup [.int (i : Nat), .ref ac[i]])) T = some (.tup [.int (i : Nat), .ref ac[i]]) := upd_same
    have nDT : D ≠ T := ne_of_none eD nT
    generalize upd H1 T (.tup [.int (i : Nat), .ref ac[i]]) = H2 at *
    have hcl := ckN_len F.clocks j i
    refine ⟨T, _, rfl, SqT.of e2, rfl, _, _, rfl, _, _, rfl, rfl, rfl, _, rfl, _, _, _, _, rfl, rfl, sTup (sm.trans s2) hc2, at_of (j := 1) rfl rfl, _, rfl, rfl, _, rfl, ite2 (fun g => ?_) (fun g => ?_)⟩
    · have ge : C.dev = j := vint_eq g
      refine ⟨_, rfl, _, s2 _ _ eD, by rw [List.length_map]; exact sizes' (by omega), fun b u h => ?_, ?_⟩
      · rw [upd_ne (ne_of_none h hD)]
        exact s2 _ _ (sm b u h)
      · rw [upd_same, ckN_yes hc1 ge, List.map_append]
        rfl
    · have ge : C.dev ≠ j := vint_ne g
      refine ⟨sm.trans s2, ?_⟩
      rw [ckN_no hc1 ge]
      exact s2 _ _ eD
  · rintro H' ⟨sm, e⟩
    rw [e1] at e
    exact q D H' sm hD e
def sp__law_clocks (K : PySem.W.Frag) (CF : Addr) : Sp := fun vs H Q _ => ∃ (p t : Addr) (F : Fm), vs = [.ref p, .ref t] ∧ FrAt K CF H p F ∧ FmAt K H t F ∧ F.Ok ∧ ∀ H', Same H H' → Q (.bl true) H'
theorem ok__law_clocks {f : Addr} {fd : FuncData} {CF : Addr} (TF : Ck_Frame K mg CF) (D : Df K mg "_law_clocks" s__law_clocks ["told", "frame"] f fd) (T : Txt K mg) {f_Frame_clocks_of : Addr} {fd_Frame_clocks_of : FuncData} (M_Frame_clocks_of : Mt K CF "clocks_of" "Frame.clocks_of" s_Frame_clocks_of ["self", "device"] f_Frame_clocks_of fd_Frame_clocks_of) (G_Frame_clocks_of : FnOk P w K mg base CX0 1 f_Frame_clocks_of fd_Frame_clocks_of ["self", "device"] (sp_Frame_clocks_of K CF)) : FnOk P w K mg base CX0 2 f fd ["told", "frame"] (sp__law_clocks K CF) := by
  refine D.F.ok sc__law_clocks (fun vs H Q E h => ?_) (fun cdv A outer s H vs Q E hr h => ?_)
  · obtain ⟨p, t, F, rfl, _⟩ := h
    rfl
  obtain ⟨p, t, F, rfl, hR, hF, hk, q⟩ := h
  refine ⟨_, (pss_cons (ps_for PassesOwn.never rfl (pi_range1 rfl T.range (pa_cons (pe_callB call_len_seq rfl T.len PySem.boot_len (pa_cons (pe_ix ix_tup (pv 1) pe_int (fun _ _ => rfl)) pa_nil)) pa_nil)) (pg_name (i := 2) sc__law_clocks.nd rfl (Or.inl rfl))
      (pss_cons (ps_set (i := 3) sc__law_clocks.nd rfl (Or.inl rfl) (pe_lst pa_nil))
    (pss_cons (ps_for PassesOwn.never rfl (pi_range1 rfl T.range (pa_cons (pe_callB call_len_seq rfl T.len PySem.boot_len (pa_cons (pe_ix ix_tup (pv 1) pe_int (fun _ _ => rfl)) pa_nil)) pa_nil)) (pg_name (i := 4) sc__law_clocks.nd rfl (Or.inl rfl))
      (pss_one (ps_if (pt_cmpR op_eq (pe_ix ix_tup (pe_ix ix_list (pe_ix ix_tup (pv 1) pe_int (fun _ _ => rfl)) (pv 4) (fun _ _ => rfl)) pe_int (fun _ _ => rfl)) (pv 2) (nomark _))
      (pss_one (ps_expr (pe_bm PySem.F.plainAttrs_list PySem.F.slot_list_append PySem.F.type_list_append mt_append (pv 3) (pa_cons (pv 4) pa_nil))))
      pss_nil)))
    (pss_cons (ps_set (i := 5) sc__law_clocks.nd rfl (Or.inl rfl) (pe_meth (pv 0) TF.cl M_Frame_clocks_of.m G_Frame_clocks_of (hr.mono (by decide)) M_Frame_clocks_of.b .nil pass0 (pa_cons (pv 2) pa_nil)))
    (pss_cons (ps_if (PW.pt (pw_or (pt_not (pt_val (pe_callB call_isi rfl T.isinstance (by decide +kernel) (pa_cons (pv 5) (pa_cons (pe_bltn (v := V.ty "list") (by rfl) T.list (by decide +kernel) rfl) pa_nil))))) (pw_or1 (pt_cmpR (op_neP hr.units) (pv 5) (pv 3) (nomark _)))))
      (pss_one (ps_ret pe_bl))
      pss_nil)
    (pss_cons (ps_expr (pe_bm PySem.F.plainAttrs_list PySem.F.slot_list_append PySem.F.type_list_append mt_append (pv 5) (pa_cons pe_int pa_nil)))
    (pss_one (ps_if (pt_cmpR (op_neP hr.units) (pe_meth (pv 0) TF.cl M_Frame_clocks_of.m G_Frame_clocks_of (hr.mono (by decide)) M_Frame_clocks_of.b .nil pass0 (pa_cons (pv 2) pa_nil)) (pv 3) (nomark _))
      (pss_one (ps_ret pe_bl))
      pss_nil))))))))
    (pss_one (ps_ret pe_bl))), ?_⟩
  obtain ⟨dx, d1, c1, l1, s1, hp, hf⟩ := id hR
  obtain ⟨d, c, l, s, ht, hg⟩ := hF
  obtain ⟨hd, ⟨ac, hc, hEc⟩, _, _⟩ := hg
  have e1 : (ac.map V.ref).length = F.clocks.length := by rw [List.length_map, hEc.1]
  have e0 : (F.devices.map V.str).length = F.devices.length := List.length_map _
  have k0 := hk.dl
  have k1 := hk.cl
  refine ⟨_, rfl, _, _, _, _, rfl, rfl, ht, at_of (j := 0) rfl rfl, _, _, rfl, .inl (SqL.of hd), _, rfl, by omega, by omega, for_range (lo := 0) (n := (((F.devices.map V.str).length : Nat) : Int).toNat) (fun i σ H' => ∃ v2 v3 v4 v5, σ = [some (.ref p), some (.ref t), v2, v3, v4, v5] ∧ Same H H') ⟨_, _, _, _, rfl, Same.refl _⟩ ?_ ?_⟩
  · rintro i σ H1 hi ⟨v2, v3, v4, v5, rfl, s1⟩
    refine ⟨(by show 0 ≤ sizeLine; decide), fun D hD => ?_⟩
    have s2 : Same H1 (upd H1 D (.lst [])) := same_upd hD
    have fD : H D = none := s1.free hD
    have ht2 := sTup (s1.trans s2) ht
    refine ⟨_, rfl, _, _, _, _, rfl, rfl, ht2, at_of (j := 1) rfl rfl, _, _, rfl, .inl (SqL.of ((s1.trans s2) _ _ hc)), _, rfl, by omega, by omega, for_range (lo := 0) (n := (((ac.map V.ref).length : Nat) : Int).toNat) (fun k σ H' => ∃ v4, σ = [some (.ref p), some (.ref t), some (.int (0 + (i : Int))), some (.ref D), v4, v5] ∧ Same H1 H' ∧ H' D = some (.lst ((ckN F.clocks (0 + (i : Int)) k).map V.int))) ⟨_, rfl, s2, upd_same⟩ ?_ ?_⟩
    · rintro k σ H' hk' ⟨v4, rfl, sm, eD⟩
      have hkl : k < ac.length := by rw [List.length_map] at hk'; omega
      obtain ⟨C, hc1, tt, hc2, hc3⟩ := hEc.get (List.getElem?_eq_getElem hkl)
      have s3 := s1.trans sm
      have hcl := ckN_len F.clocks (0 + (i : Int)) k
      refine ⟨_, rfl, _, _, _, _, rfl, rfl, sTup s3 ht, at_of (j := 1) rfl rfl, _, rfl, _, _, _, _, rfl, rfl, SqL.of (s3 _ _ hc), at_of (j := k) (v := V.ref ac[k]) (by omega) (by rw [List.getElem?_map, List.getElem?_eq_getElem hkl]; rfl), _, _, _, _, rfl, rfl, sTup s3 hc2, at_of (j := 1) rfl rfl, _, rfl, rfl, _, rfl, ite2 (fun g => ?_) (fun g => ?_)⟩
      · have ge : C.dev = 0 + (i : Int) := vint_eq g
        refine ⟨_, rfl, .inl ⟨rfl, _, SqL.of eD⟩, _, rfl, _, _, _, rfl, rfl, eD, by rw [List.length_map]; exact sizes' (by omega), _, rfl, fun b u h => ?_, ?_⟩
        · rw [upd_ne (ne_of_none h hD)]
          exact sm b u h
        · rw [upd_same, ckN_yes hc1 ge, List.map_append, show (0 : Int) + (k : Int) = (k : Int) from by omega]
          rfl
      · have ge : C.dev ≠ 0 + (i : Int) := vint_ne g
        refine ⟨_, rfl, sm, ?_⟩
        rw [ckN_no hc1 ge]
        exact eD
    rintro σ H3 ⟨v4, rfl, s3, eD⟩
    rw [e1, Int.toNat_natCast] at eD
    have s03 := s1.trans s3
    refine ⟨_, rfl, p, dx, _, rfl, s03 _ _ hp, no_Frame, _, rfl, p, F, _, rfl, hR.keep s03, by omega, fun g H4 s4 ng eg => ?_⟩
    have nDg : D ≠ g := ne_of_none eD ng
    refine ⟨_, rfl, _, _, _, _, _, rfl, ClsV.ty "list", tyL (SqL.of eg), kit_ty (r := true) (by decide +kernel), _, rfl, iteF ?_⟩
    refine ⟨_, rfl, _, rfl, _, _, ints_dp (SqL.of eg), ints_dp (SqL.of (s4 _ _ eD)), all_plain int_plain _, all_plain int_plain _, list_depth int_depth _, _, rfl, ?_⟩
    rw [list_eqv int_plain]
    refine iteF ?_
    have hcl := ckN_len F.clocks (0 + (i : Int)) F.clocks.length
    refine ⟨_, rfl, .inl ⟨rfl, _, SqL.of eg⟩, _, _, _, rfl, rfl, eg, by rw [List.length_map]; exact sizes' (by omega), ?_⟩
    have b5 : But g H4 (upd H4 g (.lst ((ckN F.clocks (0 + (i : Int)) F.clocks.length).map V.int ++ [V.int 7]))) := But.set
    have s35 : Same H3 (upd H4 g (.lst ((ckN F.clocks (0 + (i : Int)) F.clocks.length).map V.int ++ [V.int 7]))) := fun b u h => b5 _ _ (ne_of_none h ng) (s4 _ _ h)
    generalize upd H4 g (.lst ((ckN F.clocks (0 + (i : Int)) F.clocks.length).map V.int ++ [V.int 7])) = H5 at *
    have s05 := s03.trans s35
    refine ⟨_, rfl, p, dx, _, rfl, s05 _ _ hp, no_Frame, _, rfl, p, F, _, rfl, hR.keep s05, by omega, fun g2 H6 s6 ng2 eg2 => ?_⟩
    refine ⟨_, rfl, _, _, ints_dp (SqL.of eg2), ints_dp (SqL.of (s6 _ _ (s35 _ _ eD))), all_plain int_plain _, all_plain int_plain _, list_depth int_depth _, _, rfl, ?_⟩
    rw [list_eqv int_plain]
    exact iteF ⟨_, _, _, _, rfl, s05.trans s6⟩
  rintro σ H1 ⟨v2, v3, v4, v5, rfl, s1⟩
  exact q H1 s1
theorem insSq {C dx : Addr} {fs : List (Str × V)} {K : PySem.W.Frag} {H H' : Hp} {o a : Addr} {ys : List V} (e : But o H H') (ho : H o = some (.ins C dx fs)) (h : SqL K H a ys) : SqL K H' a ys := by
  rcases h with (h | ⟨ob, h⟩) | h
  · exact .inl (.inl (e _ _ (ne_of h ho (by intro z; cases z)) h))
  · exact .inl (.inr ⟨ob, e _ _ (ne_of h ho (by intro z; cases z)) h⟩)
  · exact .inr h
def sp_Frame___init__ (K : PySem.W.Frag) (CF : Addr) : Sp := fun vs H Q _ => ∃ (p dx a1 a2 a3 a4 : Addr) (x1 x2 x3 x4 : List V) (v5 : V), vs = [.ref p, .ref a1, .ref a2, .ref a3, .ref a4, v5] ∧ H p = some (.ins CF dx []) ∧ SqL K H a1 x1 ∧ SqL K H a2 x2 ∧ SqL K H a3 x3 ∧ SqL K H a4 x4 ∧
  ∀ (d1 d2 d3 d4 : Addr) (H' : Hp), But p H H' → H' p = some (.ins CF dx (ff_Frame (.ref d1) (.ref d2) (.ref d3) (.ref d4) v5)) → H' d1 = some (.lst x1) → H' d2 = some (.lst x2) → H' d3 = some (.lst x3) → H' d4 = some (.lst x4) → H d1 = none → H d2 = none → H d3 = none → H d4 = none → [d1, d2, d3, d4].Nodup → Q .non H'
theorem ok_Frame___init__ {f : Addr} {fd : FuncData} {CF : Addr} (TF : Ck_Frame K mg CF) (D : Mt K CF "__init__" "Frame.__init__" s_Frame___init__ ["self", "devices", "clocks", "links", "sources", "faults"] f fd) (T : Txt K mg) : FnOk P w K mg base CX0 1 f fd ["self", "devices", "clocks", "links", "sources", "faults"] (sp_Frame___init__ K CF) := by
  refine D.F.ok sc_Frame___init__ (fun vs H Q E h => ?_) (fun cdv A outer s H vs Q E hr h => ?_)
  · obtain ⟨p, dx, a1, a2, a3, a4, x1, x2, x3, x4, v5, rfl, _⟩ := h
    rfl
  obtain ⟨p, dx, a1, a2, a3, a4, x1, x2, x3, x4, v5, rfl, hp, h1, h2, h3, h4, q⟩ := h
  refine ⟨_, (pss_cons (ps_fld (pv 0) (pe_callTy call_list_of rfl T.list (by decide +kernel) (pa_cons (pv 1) pa_nil)) rfl)
    (pss_cons (ps_fld (pv 0) (pe_callTy call_list_of rfl T.list (by decide +kernel) (pa_cons (pv 2) pa_nil)) rfl)
    (pss_cons (ps_fld (pv 0) (pe_callTy call_list_of rfl T.list (by decide +kernel) (pa_cons (pv 3) pa_nil)) rfl)
    (pss_cons (ps_fld (pv 0) (pe_callTy call_list_of rfl T.list (by decide +kernel) (pa_cons (pv 4) pa_nil)) rfl)
    (pss_one (ps_fld (pv 0) (pv 5) rfl)))))), ?_⟩
  refine ⟨_, rfl, _, _, rfl, .inl h1, fun d1 n1 => ?_⟩
  have s1 : Same H (upd H d1 (.lst x1)) := same_upd n1
  have e1 : (upd H d1 (.lst x1)) d1 = some (.lst x1) := upd_same
  generalize upd H d1 (.lst x1) = H1 at *
  have p1 := s1 _ _ hp
  refine ⟨_, rfl, p, CF, dx, [], rfl, p1, TF.cl, TF.n_devices, (by show 0 < 1000; decide), ?_⟩
  have b1 : But p H1 (upd H1 p (.ins CF dx (putF "devices" (.ref d1) []))) := But.set
  have q1 : (upd H1 p (.ins CF dx (putF "devices" (.ref d1) []))) p = some (.ins CF dx (putF "devices" (.ref d1) [])) := upd_same
  have f1 := b1 _ _ (ne_of e1 p1 (by intro z; cases z)) e1
  have g2 := insSq b1 p1 (s1.seq h2)
  have g3 := insSq b1 p1 (s1.seq h3)
  have g4 := insSq b1 p1 (s1.seq h4)
  have c1 := (But.of s1).trans b1
  have w1 : ∀ b, (upd H1 p (.ins CF dx (putF "devices" (.ref d1) []))) b = none → H b = none := fun b hb => by
    cases e : H b with
    | none => rfl
    | some u =>
      by_cases hbp : b = p
      · rw [hbp, q1] at hb; cases hb
      · rw [c1 _ _ hbp e] at hb; cases hb
  generalize upd H1 p (.ins CF dx (putF "devices" (.ref d1) [])) = H2 at *
  refine ⟨_, rfl, _, _, rfl, .inl g2, fun d2 n2 => ?_⟩
  have d12 : d1 ≠ d2 := ne_of_none f1 n2
  have s2 : Same H2 (upd H2 d2 (.lst x2)) := same_upd n2
  have e2 : (upd H2 d2 (.lst x2)) d2 = some (.lst x2) := upd_same
  generalize upd H2 d2 (.lst x2) = H3 at *
  have p3 := s2 _ _ q1
  refine ⟨_, rfl, p, CF, dx, _, rfl, p3, TF.cl, TF.n_clocks, (by show 1 < 1000; decide), ?_⟩
  have b3 : But p H3 (upd H3 p (.ins CF dx (putF "clocks" (.ref d2) (putF "devices" (.ref d1) [])))) := But.set
  have q3 : (upd H3 p (.ins CF dx (putF "clocks" (.ref d2) (putF "devices" (.ref d1) [])))) p = some (.ins CF dx (putF "clocks" (.ref d2) (putF "devices" (.ref d1) []))) := upd_same
  have f2 := b3 _ _ (ne_of e2 p3 (by intro z; cases z)) e2
  have f1 := b3 _ _ (ne_of (s2 _ _ f1) p3 (by intro z; cases z)) (s2 _ _ f1)
  have g3 := insSq b3 p3 (s2.seq g3)
  have g4 := insSq b3 p3 (s2.seq g4)
  have c3 := c1.trans ((But.of s2).trans b3)
  have w3 : ∀ b, (upd H3 p (.ins CF dx (putF "clocks" (.ref d2) (putF "devices" (.ref d1) [])))) b = none → H b = none := fun b hb => by
    cases e : H b with
    | none => rfl
    | some u =>
      by_cases hbp : b = p
      · rw [hbp, q3] at hb; cases hb
      · rw [c3 _ _ hbp e] at hb; cases hb
  generalize upd H3 p (.ins CF dx (putF "clocks" (.ref d2) (putF "devices" (.ref d1) []))) = H4 at *
  refine ⟨_, rfl, _, _, rfl, .inl g3, fun d3 n3 => ?_⟩
  have d13 : d1 ≠ d3 := ne_of_none f1 n3
  have d23 : d2 ≠ d3 := ne_of_none f2 n3
  have s4 : Same H4 (upd H4 d3 (.lst x3)) := same_upd n3
  have e3 : (upd H4 d3 (.lst x3)) d3 = some (.lst x3) := upd_same
  generalize upd H4 d3 (.lst x3) = H5 at *
  have p5 := s4 _ _ q3
  refine ⟨_, rfl, p, CF, dx, _, rfl, p5, TF.cl, TF.n_links, (by show 2 < 1000; decide), ?_⟩
  have b5 : But p H5 (upd H5 p (.ins CF dx (putF "links" (.ref d3) (putF "clocks" (.ref d2) (putF "devices" (.ref d1) []))))) := But.set
  have q5 : (upd H5 p (.ins CF dx (putF "links" (.ref d3) (putF "clocks" (.ref d2) (putF "devices" (.ref d1) []))))) p = some (.ins CF dx (putF "links" (.ref d3) (putF "clocks" (.ref d2) (putF "devices" (.ref d1) [])))) := upd_same
  have f3 := b5 _ _ (ne_of e3 p5 (by intro z; cases z)) e3
  have f2 := b5 _ _ (ne_of (s4 _ _ f2) p5 (by intro z; cases z)) (s4 _ _ f2)
  have f1 := b5 _ _ (ne_of (s4 _ _ f1) p5 (by intro z; cases z)) (s4 _ _ f1)
  have g4 := insSq b5 p5 (s4.seq g4)
  have c5 := c3.trans ((But.of s4).trans b5)
  have w5 : ∀ b, (upd H5 p (.ins CF dx (putF "links" (.ref d3) (putF "clocks" (.ref d2) (putF "devices" (.ref d1) []))))) b = none → H b = none := fun b hb => by
    cases e : H b with
    | none => rfl
    | some u =>
      by_cases hbp : b = p
      · rw [hbp, q5] at hb; cases hb
      · rw [c5 _ _ hbp e] at hb; cases hb
  generalize upd H5 p (.ins CF dx (putF "links" (.ref d3) (putF "clocks" (.ref d2) (putF "devices" (.ref d1) [])))) = H6 at *
  refine ⟨_, rfl, _, _, rfl, .inl g4, fun d4 n4 => ?_⟩
  have d14 : d1 ≠ d4 := ne_of_none f1 n4
  have d24 : d2 ≠ d4 := ne_of_none f2 n4
  have d34 : d3 ≠ d4 := ne_of_none f3 n4
  have s6 : Same H6 (upd H6 d4 (.lst x4)) := same_upd n4
  have e4 : (upd H6 d4 (.lst x4)) d4 = some (.lst x4) := upd_same
  generalize upd H6 d4 (.lst x4) = H7 at *
  have p7 := s6 _ _ q5
  refine ⟨_, rfl, p, CF, dx, _, rfl, p7, TF.cl, TF.n_sources, (by show 3 < 1000; decide), ?_⟩
  have b7 : But p H7 (upd H7 p (.ins CF dx (putF "sources" (.ref d4) (putF "links" (.ref d3) (putF "clocks" (.ref d2) (putF "devices" (.ref d1) [])))))) := But.set
  have q7 : (upd H7 p (.ins CF dx (putF "sources" (.ref d4) (putF "links" (.ref d3) (putF "clocks" (.ref d2) (putF "devices" (.ref d1) [])))))) p = some (.ins CF dx (putF "sources" (.ref d4) (putF "links" (.ref d3) (putF "clocks" (.ref d2) (putF "devices" (.ref d1) []))))) := upd_same
  have c7 := c5.trans ((But.of s6).trans b7)
  have f4 := b7 _ _ (ne_of e4 p7 (by intro z; cases z)) e4
  have f3 := b7 _ _ (ne_of (s6 _ _ f3) p7 (by intro z; cases z)) (s6 _ _ f3)
  have f2 := b7 _ _ (ne_of (s6 _ _ f2) p7 (by intro z; cases z)) (s6 _ _ f2)
  have f1 := b7 _ _ (ne_of (s6 _ _ f1) p7 (by intro z; cases z)) (s6 _ _ f1)
  generalize upd H7 p (.ins CF dx (putF "sources" (.ref d4) (putF "links" (.ref d3) (putF "clocks" (.ref d2) (putF "devices" (.ref d1) []))))) = H8 at *
  refine ⟨_, rfl, _, rfl, p, CF, dx, _, rfl, q7, TF.cl, TF.n_faults, (by show 4 < 1000; decide), ?_⟩
  have b9 : But p H8 (upd H8 p (.ins CF dx (ff_Frame (.ref d1) (.ref d2) (.ref d3) (.ref d4) v5))) := But.set
  refine q d1 d2 d3 d4 _ (c7.trans b9) upd_same (b9 _ _ (ne_of f1 q7 (by intro z; cases z)) f1) (b9 _ _ (ne_of f2 q7 (by intro z; cases z)) f2) (b9 _ _ (ne_of f3 q7 (by intro z; cases z)) f3) (b9 _ _ (ne_of f4 q7 (by intro z; cases z)) f4) n1 (w1 _ n2) (w3 _ n3) (w5 _ n4) ?_
  simp only [List.nodup_cons, List.mem_cons, List.not_mem_nil, or_false, not_or, not_false_eq_true, List.nodup_nil, and_true]
  exact ⟨⟨d12, d13, d14⟩, ⟨d23, d24⟩, d34⟩
/-- a frame's lists, none of them among L -/
structure FmO (K : PySem.W.Frag) (H : Hp) (L : List Addr) (d c l s : Addr) (F : Fm) : Prop where
  f : FmIn K H d c l s F
  nd : d ∉ L
  nc : c ∉ L
  nl : l ∉ L
  ns : s ∉ L
theorem FmO.keep {K : PySem.W.Frag} {H H' : Hp} {L : List Addr} {d c l s : Addr} {F : Fm} (e : Same H H') (h : FmO K H L d c l s F) : FmO K H' L d c l s F := ⟨h.f.keep e, h.nd, h.nc, h.nl, h.ns⟩
theorem FmO.but {K : PySem.W.Frag} {H H' : Hp} {L : List Addr} {d c l s o : Addr} {xs : List V} {F : Fm} (e : But o H H') (ho : H o = some (.lst xs)) (m : o ∈ L) (h : FmO K H L d c l s F) : FmO K H' L d c l s F :=
  ⟨h.f.but e ho (fun z => h.nd (z ▸ m)) (fun z => h.nc (z ▸ m)) (fun z => h.nl (z ▸ m)) (fun z => h.ns (z ▸ m)), h.nd, h.nc, h.nl, h.ns⟩
/-- what the law holds while it changes what it passed -/
structure Jx (K : PySem.W.Frag) (CF : Addr) (H : Hp) (L : List Addr) (t x y g : Addr) (F F2 : Fm) (gs : List V) : Prop where
  f : ∃ d c l s, SqT K H t [.ref d, .ref c, .ref l, .ref s, .int F.faults] ∧ FmO K H L d c l s F
  r : ∃ dx d c l s, H x = some (.ins CF dx (ff_Frame (.ref d) (.ref c) (.ref l) (.ref s) (.int F.faults))) ∧ FmO K H L d c l s F
  o : ∃ dx d c l s, H y = some (.ins CF dx (ff_Frame (.ref d) (.ref c) (.ref l) (.ref s) (.int F2.faults))) ∧ FmO K H L d c l s F2
  gv : H g = some (.lst gs)
  gn : g ∉ L
section
variable {K : PySem.W.Frag} {CF : Addr} {H H' : Hp} {L : List Addr} {t x y g o : Addr} {F F2 : Fm} {gs xs : List V}
theorem Jx.keep (e : Same H H') (h : Jx K CF H L t x y g F F2 gs) : Jx K CF H' L t x y g F F2 gs := by
  obtain ⟨⟨d, c, l, s, a1, a2⟩, ⟨dx, d', c', l', s', b1, b2⟩, ⟨dy, d2, c2, l2, s2, e1, e2⟩, g1, g2⟩ := h
  exact ⟨⟨d, c, l, s, sTup e a1, a2.keep e⟩, ⟨dx, d', c', l', s', e _ _ b1, b2.keep e⟩, ⟨dy, d2, c2, l2, s2, e _ _ e1, e2.keep e⟩, e _ _ g1, g2⟩
theorem Jx.but (e : But o H H') (ho : H o = some (.lst xs)) (m : o ∈ L) (h : Jx K CF H L t x y g F F2 gs) : Jx K CF H' L t x y g F F2 gs := by
  obtain ⟨⟨d, c, l, s, a1, a2⟩, ⟨dx, d', c', l', s', b1, b2⟩, ⟨dy, d2, c2, l2, s2, e1, e2⟩, g1, g2⟩ := h
  exact ⟨⟨d, c, l, s, butTup e ho a1, a2.but e ho m⟩, ⟨dx, d', c', l', s', e _ _ (ne_of b1 ho (by intro z; cases z)) b1, b2.but e ho m⟩, ⟨dy, d2, c2, l2, s2, e _ _ (ne_of e1 ho (by intro z; cases z)) e1, e2.but e ho m⟩, e _ _ (fun z => g2 (z ▸ m)) g1, g2⟩
theorem Jx.fm (h : Jx K CF H L t x y g F F2 gs) : FmAt K H t F := by
  obtain ⟨d, c, l, s, a1, a2⟩ := h.f
  exact ⟨d, c, l, s, a1, a2.f⟩
theorem Jx.fr (h : Jx K CF H L t x y g F F2 gs) : FrAt K CF H x F := by
  obtain ⟨dx, d, c, l, s, a1, a2⟩ := h.r
  exact ⟨dx, d, c, l, s, a1, a2.f⟩
theorem Jx.fo (h : Jx K CF H L t x y g F F2 gs) : FrAt K CF H y F2 := by
  obtain ⟨dx, d, c, l, s, a1, a2⟩ := h.o
  exact ⟨dx, d, c, l, s, a1, a2.f⟩
end
/-- the other frame -/
def otherF : Fm := ⟨["z"], [], [], [⟨"s", 0, [⟨"k", 1, some 2⟩]⟩], 0⟩
theorem n4 {a b c d e : Addr} (h1 : e ≠ a) (h2 : e ≠ b) (h3 : e ≠ c) (h4 : e ≠ d) : e ∉ [a, b, c, d] := by
  simp only [List.mem_cons, List.not_mem_nil, or_false, not_or]
  exact ⟨h1, h2, h3, h4⟩
def sp_law (K : PySem.W.Frag) : Sp := fun vs H Q _ => ∃ (a : Addr) (ns : List Int), vs = [.ref a] ∧ SqL K H a (ns.map V.int) ∧ ns.length ≤ 63 ∧ ∀ H', Q (.bl true) H'
theorem ok_law {f : Addr} {fd : FuncData} {CF : Addr} (TF : Ck_Frame K mg CF) {f_Frame___init__ : Addr} (MF : Mk K CF f_Frame___init__) (D : Df K mg "law" s_law ["script"] f fd) (T : Txt K mg) {aB : Addr} (BG : Begin K mg aB) {f__law_draws : Addr} {fd__law_draws : FuncData} (D__law_draws : Df K mg "_law_draws" s__law_draws ["script", "count"] f__law_draws fd__law_draws) (G__law_draws : FnOk P w K mg base CX0 1 f__law_draws fd__law_draws ["script", "count"] (sp__law_draws K)) {f__law_parts : Addr} {fd__law_parts : FuncData} (D__law_parts : Df K mg "_law_parts" s__law_parts ["rows"] f__law_parts fd__law_parts) (G__law_parts : FnOk P w K mg base CX0 4 f__law_parts fd__law_parts ["rows"] (sp__law_parts K)) {f__law_fields : Addr} {fd__law_fields : FuncData} (D__law_fields : Df K mg "_law_fields" s__law_fields ["told", "frame"] f__law_fields fd__law_fields) (G__law_fields : FnOk P w K mg base CX0 2 f__law_fields fd__law_fields ["told", "frame"] (sp__law_fields K CF)) {f__law_numbers : Addr} {fd__law_numbers : FuncData} (D__law_numbers : Df K mg "_law_numbers" s__law_numbers ["told", "frame"] f__law_numbers fd__law_numbers) (G__law_numbers : FnOk P w K mg base CX0 3 f__law_numbers fd__law_numbers ["told", "frame"] (sp__law_numbers K CF)) {f__law_clocks : Addr} {fd__law_clocks : FuncData} (D__law_clocks : Df K mg "_law_clocks" s__law_clocks ["told", "frame"] f__law_clocks fd__law_clocks) (G__law_clocks : FnOk P w K mg base CX0 2 f__law_clocks fd__law_clocks ["told", "frame"] (sp__law_clocks K CF)) {fd_Frame___init__ : FuncData} (M_Frame___init__ : Mt K CF "__init__" "Frame.__init__" s_Frame___init__ ["self", "devices", "clocks", "links", "sources", "faults"] f_Frame___init__ fd_Frame___init__) (G_Frame___init__ : FnOk P w K mg base CX0 1 f_Frame___init__ fd_Frame___init__ ["self", "devices", "clocks", "links", "sources", "faults"] (sp_Frame___init__ K CF)) {f_Frame_part_count : Addr} {fd_Frame_part_count : FuncData} (M_Frame_part_count : Pr K CF "part_count" "Frame.part_count" s_Frame_part_count ["self"] f_Frame_part_count fd_Frame_part_count) (G_Frame_part_count : FnOk P w K mg base CX0 1 f_Frame_part_count fd_Frame_part_count ["self"] (sp_Frame_part_count K CF)) {f_Frame_clocks_of : Addr} {fd_Frame_clocks_of : FuncData} (M_Frame_clocks_of : Mt K CF "clocks_of" "Frame.clocks_of" s_Frame_clocks_of ["self", "device"] f_Frame_clocks_of fd_Frame_clocks_of) (G_Frame_clocks_of : FnOk P w K mg base CX0 1 f_Frame_clocks_of fd_Frame_clocks_of ["self", "device"] (sp_Frame_clocks_of K CF)) {f_Frame_source_part : Addr} {fd_Frame_source_part : FuncData} (M_Frame_source_part : Mt K CF "source_part" "Frame.source_part" s_Frame_source_part ["self", "source"] f_Frame_source_part fd_Frame_source_part) (G_Frame_source_part : FnOk P w K mg base CX0 1 f_Frame_source_part fd_Frame_source_part ["self", "source"] (sp_Frame_source_part K CF)) : FnOk P w K mg base CX0 5 f fd ["script"] (sp_law K) := by
  refine D.F.ok sc_law (fun vs H Q E h => ?_) (fun cdv A outer s H vs Q E hr h => ?_)
  · obtain ⟨a, ns, rfl, _⟩ := h
    rfl
  obtain ⟨a, ns, rfl, hS, h63, q⟩ := h
  refine ⟨_, (pss_cons (ps_set (i := 1) sc_law.nd rfl (Or.inl rfl) (pe_call G__law_draws (hr.mono (by decide)) rfl D__law_draws.m D__law_draws.F.kp D__law_draws.b .nil pass0 (pa_cons (pv 0) (pa_cons pe_int pa_nil))))
    (pss_cons (ps_set (i := 2) sc_law.nd rfl (Or.inl rfl) (pe_call G__law_parts (hr.mono (by decide)) rfl D__law_parts.m D__law_parts.F.kp D__law_parts.b .nil pass0 (pa_cons (pv 1) pa_nil)))
    (pss_cons (ps_set (i := 3) sc_law.nd rfl (Or.inl rfl) (pe_lst (pa_cons (pe_callTy call_list_of rfl T.list (by decide +kernel) (pa_cons (pe_ix ix_tup (pv 2) pe_int (fun _ _ => rfl)) pa_nil)) (pa_cons (pe_callTy call_list_of rfl T.list (by decide +kernel) (pa_cons (pe_ix ix_tup (pv 2) pe_int (fun _ _ => rfl)) pa_nil)) (pa_cons (pe_callTy call_list_of rfl T.list (by decide +kernel) (pa_cons (pe_ix ix_tup (pv 2) pe_int (fun _ _ => rfl)) pa_nil)) (pa_cons (pe_callTy call_list_of rfl T.list (by decide +kernel) (pa_cons (pe_ix ix_tup (pv 2) pe_int (fun _ _ => rfl)) pa_nil)) pa_nil))))))
    (pss_cons (ps_set (i := 4) sc_law.nd rfl (Or.inl rfl) (pe_make MF G_Frame___init__ (hr.mono (by decide)) rfl TF.mg M_Frame___init__.b .nil pass0 (pa_cons (pe_ix ix_list (pv 3) pe_int (fun _ _ => rfl)) (pa_cons (pe_ix ix_list (pv 3) pe_int (fun _ _ => rfl)) (pa_cons (pe_ix ix_list (pv 3) pe_int (fun _ _ => rfl)) (pa_cons (pe_ix ix_list (pv 3) pe_int (fun _ _ => rfl)) (pa_cons (pe_ix ix_tup (pv 2) pe_int (fun _ _ => rfl)) pa_nil)))))))
    (pss_cons (ps_if (PW.pt (pw_or (pt_cmpR (op_neP hr.units) (pv 3) (pe_lst (pa_cons (pe_ix ix_tup (pv 2) pe_int (fun _ _ => rfl)) (pa_cons (pe_ix ix_tup (pv 2) pe_int (fun _ _ => rfl)) (pa_cons (pe_ix ix_tup (pv 2) pe_int (fun _ _ => rfl)) (pa_cons (pe_ix ix_tup (pv 2) pe_int (fun _ _ => rfl)) pa_nil))))) (nomark _)) (pw_or1 (pt_not (pt_val (pe_call G__law_fields (hr.mono (by decide)) rfl D__law_fields.m D__law_fields.F.kp D__law_fields.b .nil pass0 (pa_cons (pv 4) (pa_cons (pv 2) pa_nil))))))))
      (pss_one (ps_ret pe_bl))
      pss_nil)
    (pss_cons (ps_set (i := 5) sc_law.nd rfl (Or.inl rfl) (pe_make MF G_Frame___init__ (hr.mono (by decide)) rfl TF.mg M_Frame___init__.b .nil pass0 (pa_cons (pe_lst (pa_cons pe_str pa_nil)) (pa_cons (pe_lst pa_nil) (pa_cons (pe_lst pa_nil) (pa_cons (pe_lst (pa_cons (pe_tup (pa_cons pe_str (pa_cons pe_int (pa_cons (pe_tup (pa_cons (pe_tup (pa_cons pe_str (pa_cons pe_int (pa_cons pe_int pa_nil)))) pa_nil)) pa_nil)))) pa_nil)) (pa_cons pe_int pa_nil)))))))
    (pss_cons (ps_if (PW.pt (pw_or (pt_not (pt_val (pe_call G__law_clocks (hr.mono (by decide)) rfl D__law_clocks.m D__law_clocks.F.kp D__law_clocks.b .nil pass0 (pa_cons (pv 4) (pa_cons (pv 2) pa_nil))))) (pw_or1 (pt_not (pt_val (pe_call G__law_numbers (hr.mono (by decide)) rfl D__law_numbers.m D__law_numbers.F.kp D__law_numbers.b .nil pass0 (pa_cons (pv 4) (pa_cons (pv 2) pa_nil))))))))
      (pss_one (ps_ret pe_bl))
      pss_nil)
    (pss_cons (ps_expr (pe_bm PySem.F.plainAttrs_list PySem.F.slot_list_append PySem.F.type_list_append mt_append (pe_ix ix_list (pv 3) pe_int (fun _ _ => rfl)) (pa_cons pe_str pa_nil)))
    (pss_cons (ps_expr (pe_bm PySem.F.plainAttrs_list PySem.F.slot_list_append PySem.F.type_list_append mt_append (pe_ix ix_list (pv 3) pe_int (fun _ _ => rfl)) (pa_cons (pe_tup (pa_cons pe_str (pa_cons pe_int (pa_cons pe_bl (pa_cons (pe_tup (pa_cons (pe_tup (pa_cons pe_str (pa_cons pe_int (pa_cons pe_int pa_nil)))) pa_nil)) pa_nil))))) pa_nil)))
    (pss_cons (ps_expr (pe_bm PySem.F.plainAttrs_list PySem.F.slot_list_insert PySem.F.type_list_insert mt_insert (pe_ix ix_list (pv 3) pe_int (fun _ _ => rfl)) (pa_cons pe_int (pa_cons (pe_tup (pa_cons pe_str (pa_cons pe_int (pa_cons pe_int (pa_cons (pe_tup (pa_cons (pe_tup (pa_cons pe_str (pa_cons pe_int (pa_cons pe_int pa_nil)))) pa_nil)) pa_nil))))) pa_nil))))
    (pss_cons (ps_expr (pe_bm PySem.F.plainAttrs_list PySem.F.slot_list_append PySem.F.type_list_append mt_append (pe_ix ix_list (pv 3) pe_int (fun _ _ => rfl)) (pa_cons (pe_tup (pa_cons pe_str (pa_cons pe_int (pa_cons (pe_tup (pa_cons (pe_tup (pa_cons pe_str (pa_cons pe_int (pa_cons pe_int pa_nil)))) pa_nil)) pa_nil)))) pa_nil)))
    (pss_cons (ps_if (PW.pt (pw_or (pt_cmpR op_ne (pe_propE (pv 5) TF.cl M_Frame_part_count.m G_Frame_part_count (hr.mono (by decide)) M_Frame_part_count.b .nil pass0 rfl) pe_int (nomark _)) (pw_or (pt_cmpR (op_neP hr.units) (pe_meth (pv 5) TF.cl M_Frame_clocks_of.m G_Frame_clocks_of (hr.mono (by decide)) M_Frame_clocks_of.b .nil pass0 (pa_cons pe_int pa_nil)) (pe_lst pa_nil) (nomark _)) (pw_or (pt_cmpR op_ne (pe_meth (pv 5) TF.cl M_Frame_source_part.m G_Frame_source_part (hr.mono (by decide)) M_Frame_source_part.b .nil pass0 (pa_cons pe_int pa_nil)) pe_int (nomark _)) (pw_or1 (pt_cmpR (op_neP hr.units) (pe_fld (pv 5) rfl) (pe_lst (pa_cons pe_str pa_nil)) (nomark _)))))))
      (pss_one (ps_ret pe_bl))
      pss_nil)
    (pss_cons (ps_if (PW.pt (pw_or (pt_cmpR (op_neP hr.units) (pe_glob (v := V.ref aB) rfl BG.m rfl) (pe_tup (pa_cons (pe_un un_neg pe_int) (pa_cons pe_int pa_nil))) (nomark _)) (pw_or1 (pt_not (pt_val (pe_callB call_isi rfl T.isinstance (by decide +kernel) (pa_cons (pe_glob (v := V.ref aB) rfl BG.m rfl) (pa_cons (pe_bltn (v := V.ty "tuple") (by rfl) T.tuple (by decide +kernel) rfl) pa_nil))))))))
      (pss_one (ps_ret pe_bl))
      pss_nil)
    (pss_one (ps_ret (pe_and (pe_call G__law_fields (hr.mono (by decide)) rfl D__law_fields.m D__law_fields.F.kp D__law_fields.b .nil pass0 (pa_cons (pv 4) (pa_cons (pv 2) pa_nil))) (pe_and (pe_call G__law_clocks (hr.mono (by decide)) rfl D__law_clocks.m D__law_clocks.F.kp D__law_clocks.b .nil pass0 (pa_cons (pv 4) (pa_cons (pv 2) pa_nil))) (pe_one (pe_call G__law_numbers (hr.mono (by decide)) rfl D__law_numbers.m D__law_numbers.F.kp D__law_numbers.b .nil pass0 (pa_cons (pv 4) (pa_cons (pv 2) pa_nil))))))))))))))))))))), ?_⟩
  refine ⟨_, rfl, a, ns, 26, rfl, hS, by decide, by decide, fun r H1 rs s1 nr er hrl => ?_⟩
  refine ⟨_, rfl, r, rfl, ⟨rs, er, hrl⟩, fun t H2 F b2 hF hk hfl => ?_⟩
  obtain ⟨d, c, l, s, ht, hf⟩ := id hF
  obtain ⟨hd, ⟨ac, hc, hEc⟩, ⟨al, hl, hEl⟩, ⟨as, hs, hEs⟩⟩ := id hf
  -- what is passed
  refine ⟨_, rfl, _, _, _, _, rfl, rfl, ht, at_of (j := 0) rfl rfl, d, _, rfl, .inl (SqL.of hd), fun l1 n1 => ?_⟩
  have s3 : Same H2 (upd H2 l1 (.lst (F.devices.map V.str))) := same_upd n1
  have e3 : (upd H2 l1 (.lst (F.devices.map V.str))) l1 = some (.lst (F.devices.map V.str)) := upd_same
  generalize upd H2 l1 (.lst (F.devices.map V.str)) = H3 at *
  refine ⟨_, rfl, _, _, _, _, rfl, rfl, sTup s3 ht, at_of (j := 1) rfl rfl, c, _, rfl, .inl (SqL.of (s3 _ _ hc)), fun l2 n2 => ?_⟩
  have s4 : Same H3 (upd H3 l2 (.lst (ac.map V.ref))) := same_upd n2
  have e4 : (upd H3 l2 (.lst (ac.map V.ref))) l2 = some (.lst (ac.map V.ref)) := upd_same
  have n12 : l1 ≠ l2 := ne_of_none e3 n2
  generalize upd H3 l2 (.lst (ac.map V.ref)) = H4 at *
  refine ⟨_, rfl, _, _, _, _, rfl, rfl, sTup (s3.trans s4) ht, at_of (j := 2) rfl rfl, l, _, rfl, .inl (SqL.of ((s3.trans s4) _ _ hl)), fun l3 n3 => ?_⟩
  have s5 : Same H4 (upd H4 l3 (.lst (al.map V.ref))) := same_upd n3
  have e5 : (upd H4 l3 (.lst (al.map V.ref))) l3 = some (.lst (al.map V.ref)) := upd_same
  have n13 : l1 ≠ l3 := ne_of_none (s4 _ _ e3) n3
  have n23 : l2 ≠ l3 := ne_of_none e4 n3
  generalize upd H4 l3 (.lst (al.map V.ref)) = H5 at *
  have s25 := s3.trans (s4.trans s5)
  refine ⟨_, rfl, _, _, _, _, rfl, rfl, sTup s25 ht, at_of (j := 3) rfl rfl, s, _, rfl, .inl (SqL.of (s25 _ _ hs)), fun l4 n4' => ?_⟩
  have s6 : Same H5 (upd H5 l4 (.lst (as.map V.ref))) := same_upd n4'
  have e6 : (upd H5 l4 (.lst (as.map V.ref))) l4 = some (.lst (as.map V.ref)) := upd_same
  have n14 : l1 ≠ l4 := ne_of_none (s5 _ _ (s4 _ _ e3)) n4'
  have n24 : l2 ≠ l4 := ne_of_none (s5 _ _ e4) n4'
  have n34 : l3 ≠ l4 := ne_of_none e5 n4'
  generalize upd H5 l4 (.lst (as.map V.ref)) = H6 at *
  have s26 := s25.trans s6
  refine ⟨(by show 4 ≤ sizeLine; decide), fun g ng => ?_⟩
  have s7 : Same H6 (upd H6 g (.lst [.ref l1, .ref l2, .ref l3, .ref l4])) := same_upd ng
  have eg : (upd H6 g (.lst [.ref l1, .ref l2, .ref l3, .ref l4])) g = some (.lst [.ref l1, .ref l2, .ref l3, .ref l4]) := upd_same
  have g1 : g ≠ l1 := (ne_of_none (s6 _ _ (s5 _ _ (s4 _ _ e3))) ng).symm
  have g2 : g ≠ l2 := (ne_of_none (s6 _ _ (s5 _ _ e4)) ng).symm
  have g3 : g ≠ l3 := (ne_of_none (s6 _ _ e5) ng).symm
  have g4 : g ≠ l4 := (ne_of_none e6 ng).symm
  generalize upd H6 g (.lst [.ref l1, .ref l2, .ref l3, .ref l4]) = H7 at *
  have s27 := s26.trans s7
  have m1 : H7 l1 = _ := s7 _ _ (s6 _ _ (s5 _ _ (s4 _ _ e3)))
  have m2 : H7 l2 = _ := s7 _ _ (s6 _ _ (s5 _ _ e4))
  have m3 : H7 l3 = _ := s7 _ _ (s6 _ _ e5)
  have m4 : H7 l4 = _ := s7 _ _ e6
  have f2 : FmIn K H2 d c l s F := hf
  have o1 : ∀ {u : Addr} {w : HO}, H2 u = some w → u ∉ [l1, l2, l3, l4] := fun h => n4 (ne_of_none h n1) (ne_of_none (s3 _ _ h) n2) (ne_of_none (s4 _ _ (s3 _ _ h)) n3) (ne_of_none (s25 _ _ h) n4')
  refine ⟨_, rfl, _, _, _, _, rfl, rfl, SqL.of eg, at_of (j := 0) rfl rfl, _, rfl, _, _, _, _, rfl, rfl, SqL.of eg, at_of (j := 1) rfl rfl, _, rfl, _, _, _, _, rfl, rfl, SqL.of eg, at_of (j := 2) rfl rfl, _, rfl, _, _, _, _, rfl, rfl, SqL.of eg, at_of (j := 3) rfl rfl, _, rfl, _, _, _, _, rfl, rfl, sTup s27 ht, at_of (j := 4) rfl rfl, ?_⟩
  intro x dx nx ndx nex
  have sx : Same H7 (upd (upd H7 dx (.own x)) x (.ins CF dx [])) := fun c w hc => by
    rw [upd_ne (ne_of_none hc nx), upd_ne (ne_of_none hc ndx)]
    exact hc
  have ex : (upd (upd H7 dx (.own x)) x (.ins CF dx [])) x = some (.ins CF dx []) := upd_same
  generalize upd (upd H7 dx (.own x)) x (.ins CF dx []) = H8 at *
  refine ⟨x, dx, l1, l2, l3, l4, _, _, _, _, _, rfl, ex, SqL.of (sx _ _ m1), SqL.of (sx _ _ m2), SqL.of (sx _ _ m3), SqL.of (sx _ _ m4), fun d1 d2 d3 d4 H9 b9 hx f1 f2' f3 f4 z1 z2 z3 z4 _ => ⟨rfl, ?_⟩⟩
  have s79 : Same H7 H9 := fun c w hc => b9 _ _ (ne_of_none hc nx) (sx _ _ hc)
  have o2 : ∀ {u : Addr}, H8 u = none → u ∉ [l1, l2, l3, l4] := fun h => n4 (ne_of_none (sx _ _ m1) h).symm (ne_of_none (sx _ _ m2) h).symm (ne_of_none (sx _ _ m3) h).symm (ne_of_none (sx _ _ m4) h).symm
  have s29 := s27.trans s79
  have hI : FmIn K H9 d1 d2 d3 d4 F := ⟨f1, ⟨ac, f2', hEc.keep fun _ _ z => z.keep s29⟩, ⟨al, f3, hEl.keep fun _ _ z => z.keep s29⟩, ⟨as, f4, hEs.keep fun _ _ z => z.keep s29⟩⟩
  have hO : FmO K H9 [l1, l2, l3, l4] d1 d2 d3 d4 F := ⟨hI, o2 z1, o2 z2, o2 z3, o2 z4⟩
  have hM : FmO K H9 [l1, l2, l3, l4] d c l s F := ⟨f2.keep s29, o1 hd, o1 hc, o1 hl, o1 hs⟩
  have hL : FmIn K H9 l1 l2 l3 l4 F := ⟨s79 _ _ m1, ⟨ac, s79 _ _ m2, hEc.keep fun _ _ z => z.keep s29⟩, ⟨al, s79 _ _ m3, hEl.keep fun _ _ z => z.keep s29⟩, ⟨as, s79 _ _ m4, hEs.keep fun _ _ z => z.keep s29⟩⟩
  have ht9 := sTup s29 ht
  have eg9 := s79 _ _ eg
  have hR9 : FrAt K CF H9 x F := ⟨dx, d1, d2, d3, d4, hx, hI⟩
  have hF9 := hF.keep s29
  -- given is as frame
  refine ⟨_, rfl, _, rfl, _, _, _, _, rfl, rfl, ht9, at_of (j := 0) rfl rfl, _, rfl, _, _, _, _, rfl, rfl, ht9, at_of (j := 1) rfl rfl, _, rfl, _, _, _, _, rfl, rfl, ht9, at_of (j := 2) rfl rfl, _, rfl, _, _, _, _, rfl, rfl, ht9, at_of (j := 3) rfl rfl, (by show 4 ≤ sizeLine; decide), fun q1 nq1 => ?_⟩
  have s10 : Same H9 (upd H9 q1 (.lst [.ref d, .ref c, .ref l, .ref s])) := same_upd nq1
  have e10 : (upd H9 q1 (.lst [.ref d, .ref c, .ref l, .ref s])) q1 = some (.lst [.ref d, .ref c, .ref l, .ref s]) := upd_same
  generalize upd H9 q1 (.lst [.ref d, .ref c, .ref l, .ref s]) = H10 at *
  refine ⟨frP F, frP F, frP_dp (SqL.of (s10 _ _ eg9)) (hL.keep s10), frP_dp (SqL.of e10) (hM.f.keep s10), frP_plain F, frP_plain F, frP_depth F, _, rfl, ?_⟩
  rw [SeqAt.eqv_refl_plain _ (frP_plain F)]
  refine iteF ⟨_, rfl, _, rfl, x, t, F, rfl, hR9.keep s10, hF9.keep s10, _, rfl, iteF ?_⟩
  -- another frame
  refine ⟨(by show 1 ≤ sizeLine; decide), fun p1 np1 => ⟨(by show 0 ≤ sizeLine; decide), fun p2 np2 => ⟨(by show 0 ≤ sizeLine; decide), fun p3 np3 => ⟨(by show 3 ≤ sizeLine; decide), fun t1 nt1 => ⟨(by show 1 ≤ sizeLine; decide), fun t2 nt2 => ⟨(by show 3 ≤ sizeLine; decide), fun t3 nt3 => ⟨(by show 1 ≤ sizeLine; decide), fun p4 np4 => ?_⟩⟩⟩⟩⟩⟩⟩
  have v1 : Same H10 (upd H10 p1 (.lst [V.str "z"])) := same_upd np1
  have w1 : (upd H10 p1 (.lst [V.str "z"])) p1 = some (.lst [V.str "z"]) := upd_same
  generalize upd H10 p1 (.lst [V.str "z"]) = G1 at *
  have v2 : Same G1 (upd G1 p2 (.lst [])) := same_upd np2
  have w2 : (upd G1 p2 (.lst [])) p2 = some (.lst []) := upd_same
  generalize upd G1 p2 (.lst []) = G2 at *
  have v3 : Same G2 (upd G2 p3 (.lst [])) := same_upd np3
  have w3 : (upd G2 p3 (.lst [])) p3 = some (.lst []) := upd_same
  generalize upd G2 p3 (.lst []) = G3 at *
  have v4 : Same G3 (upd G3 t1 (.tup [V.str "k", V.int 1, V.int 2])) := same_upd nt1
  have w4 : (upd G3 t1 (.tup [V.str "k", V.int 1, V.int 2])) t1 = some (.tup [V.str "k", V.int 1, V.int 2]) := upd_same
  generalize upd G3 t1 (.tup [V.str "k", V.int 1, V.int 2]) = G4 at *
  have v5 : Same G4 (upd G4 t2 (.tup [V.ref t1])) := same_upd nt2
  have w5 : (upd G4 t2 (.tup [V.ref t1])) t2 = some (.tup [V.ref t1]) := upd_same
  generalize upd G4 t2 (.tup [V.ref t1]) = G5 at *
  have v6 : Same G5 (upd G5 t3 (.tup [V.str "s", V.int 0, V.ref t2])) := same_upd nt3
  have w6 : (upd G5 t3 (.tup [V.str "s", V.int 0, V.ref t2])) t3 = some (.tup [V.str "s", V.int 0, V.ref t2]) := upd_same
  generalize upd G5 t3 (.tup [V.str "s", V.int 0, V.ref t2]) = G6 at *
  have v7 : Same G6 (upd G6 p4 (.lst [V.ref t3])) := same_upd np4
  have w7 : (upd G6 p4 (.lst [V.ref t3])) p4 = some (.lst [V.ref t3]) := upd_same
  generalize upd G6 p4 (.lst [V.ref t3]) = G7 at *
  have v47 := v5.trans (v6.trans v7)
  have v37 := v4.trans v47
  have v17 := v2.trans (v3.trans v37)
  have v07 := v1.trans v17
  intro y dy ny ndy ney
  have sy : Same G7 (upd (upd G7 dy (.own y)) y (.ins CF dy [])) := fun c w hc => by
    rw [upd_ne (ne_of_none hc ny), upd_ne (ne_of_none hc ndy)]
    exact hc
  have ey : (upd (upd G7 dy (.own y)) y (.ins CF dy [])) y = some (.ins CF dy []) := upd_same
  generalize upd (upd G7 dy (.own y)) y (.ins CF dy []) = G8 at *
  refine ⟨y, dy, p1, p2, p3, p4, _, _, _, _, _, rfl, ey, SqL.of (sy _ _ (v17 _ _ w1)), SqL.of (sy _ _ ((v3.trans v37) _ _ w2)), SqL.of (sy _ _ (v37 _ _ w3)), SqL.of (sy _ _ w7), fun y1 y2 y3 y4 G9 b9' hy k1 k2 k3 k4 zz1 zz2 zz3 zz4 _ => ⟨rfl, ?_⟩⟩
  have v79 : Same G7 G9 := fun c w hc => b9' _ _ (ne_of_none hc ny) (sy _ _ hc)
  have u9 : Same H9 G9 := s10.trans (v07.trans v79)
  have v49 := v47.trans v79
  have o3 : ∀ {u : Addr}, G8 u = none → u ∉ [l1, l2, l3, l4] := fun h => by
    have q7 := (s79.trans (s10.trans v07))
    exact n4 (ne_of_none (sy _ _ (q7 _ _ m1)) h).symm (ne_of_none (sy _ _ (q7 _ _ m2)) h).symm (ne_of_none (sy _ _ (q7 _ _ m3)) h).symm (ne_of_none (sy _ _ (q7 _ _ m4)) h).symm
  have hY : FmIn K G9 y1 y2 y3 y4 otherF := ⟨k1, ⟨[], k2, Each.nil⟩, ⟨[], k3, Each.nil⟩, ⟨[t3], k4, Each.snoc (as := []) (xs := []) Each.nil ⟨t2, SqT.of ((v7.trans v79) _ _ w6), [t1], SqT.of ((v6.trans (v7.trans v79)) _ _ w5), Each.snoc (as := []) (xs := []) Each.nil (SqT.of (v49 _ _ w4))⟩⟩⟩
  have j9 : Jx K CF G9 [l1, l2, l3, l4] t x y g F otherF [.ref l1, .ref l2, .ref l3, .ref l4] := ⟨⟨d, c, l, s, sTup u9 ht9, hM.keep u9⟩, ⟨dx, d1, d2, d3, d4, u9 _ _ hx, hO.keep u9⟩, ⟨dy, y1, y2, y3, y4, hy, hY, o3 zz1, o3 zz2, o3 zz3, o3 zz4⟩, u9 _ _ eg9, n4 g1 g2 g3 g4⟩
  have m1 := (s79.trans u9) _ _ m1
  have m2 := (s79.trans u9) _ _ m2
  have m3 := (s79.trans u9) _ _ m3
  have m4 := (s79.trans u9) _ _ m4
  clear v1 w1 v2 w2 v3 w3 v4 w4 v5 w5 v6 w6 v7 w7 v47 v37 v17 v07 sy ey v79 v49 hY k1 k2 k3 k4 zz1 zz2 zz3 zz4 b9' o3 np1 np2 np3 nt1 nt2 nt3 np4 ny ndy ney hO hM hL hI hR9 hF9 s10 e10 nq1 eg9 ht9 o2 sx ex b9 f1 f2' f3 f4 z1 z2 z3 z4 hx hy u9
  have q1l := hk.dl; have q2l := hk.cl; have q3l := hk.ll; have q4l := hk.sl
  refine ⟨_, rfl, _, rfl, x, t, F, rfl, j9.fr, j9.fm, hk, fun J1 a1 => ⟨_, rfl, iteF ⟨_, rfl, _, rfl, x, t, F, rfl, (j9.keep a1).fr, (j9.keep a1).fm, hk, _, rfl, iteF ?_⟩⟩⟩
  have j1 := j9.keep a1
  have m1 := a1 _ _ m1
  have m2 := a1 _ _ m2
  have m3 := a1 _ _ m3
  have m4 := a1 _ _ m4
  -- what was passed is changed
  refine ⟨_, rfl, _, _, _, _, rfl, rfl, SqL.of j1.gv, at_of (j := 0) rfl rfl, .inl ⟨rfl, _, SqL.of m1⟩, _, _, _, rfl, rfl, m1, by rw [List.length_map]; exact sizes' (by omega), ?_⟩
  have c1 : But l1 J1 (upd J1 l1 (.lst (F.devices.map V.str ++ [V.str "x"]))) := But.set
  have j2 := j1.but c1 m1 (by simp)
  have m2 := c1 _ _ n12.symm m2
  have m3 := c1 _ _ n13.symm m3
  have m4 := c1 _ _ n14.symm m4
  generalize upd J1 l1 (.lst (F.devices.map V.str ++ [V.str "x"])) = J2 at *
  refine ⟨_, rfl, _, _, _, _, rfl, rfl, SqL.of j2.gv, at_of (j := 1) rfl rfl, .inl ⟨rfl, _, SqL.of m2⟩, (by show 3 ≤ sizeLine; decide), fun t1 nt1 => ⟨(by show 1 ≤ sizeLine; decide), fun t2 nt2 => ⟨(by show 4 ≤ sizeLine; decide), fun t3 nt3 => ?_⟩⟩⟩
  have v1 : Same J2 (upd J2 t1 (.tup [V.str "k", V.int 1, V.int 1])) := same_upd nt1
  generalize upd J2 t1 (.tup [V.str "k", V.int 1, V.int 1]) = G1 at *
  have v2 : Same G1 (upd G1 t2 (.tup [V.ref t1])) := same_upd nt2
  generalize upd G1 t2 (.tup [V.ref t1]) = G2 at *
  have v3 : Same G2 (upd G2 t3 (.tup [V.str "x", V.int 0, V.bl true, V.ref t2])) := same_upd nt3
  generalize upd G2 t3 (.tup [V.str "x", V.int 0, V.bl true, V.ref t2]) = G3 at *
  have v13 := v1.trans (v2.trans v3)
  have m2 := v13 _ _ m2
  refine ⟨_, _, _, rfl, rfl, m2, by rw [List.length_map, hEc.1]; exact sizes' (by omega), ?_⟩
  have c2 : But l2 G3 (upd G3 l2 (.lst (ac.map V.ref ++ [V.ref t3]))) := But.set
  have j3 := (j2.keep v13).but c2 m2 (by simp)
  have m3 := c2 _ _ n23.symm (v13 _ _ m3)
  have m4 := c2 _ _ n24.symm (v13 _ _ m4)
  generalize upd G3 l2 (.lst (ac.map V.ref ++ [V.ref t3])) = J3 at *
  clear v1 v2 v3 v13 nt1 nt2 nt3
  refine ⟨_, rfl, _, _, _, _, rfl, rfl, SqL.of j3.gv, at_of (j := 2) rfl rfl, .inl ⟨rfl, _, SqL.of m3⟩, (by show 3 ≤ sizeLine; decide), fun t4 nt1 => ⟨(by show 1 ≤ sizeLine; decide), fun t5 nt2 => ⟨(by show 4 ≤ sizeLine; decide), fun t6 nt3 => ?_⟩⟩⟩
  have v1 : Same J3 (upd J3 t4 (.tup [V.str "k", V.int 1, V.int 1])) := same_upd nt1
  generalize upd J3 t4 (.tup [V.str "k", V.int 1, V.int 1]) = G4 at *
  have v2 : Same G4 (upd G4 t5 (.tup [V.ref t4])) := same_upd nt2
  generalize upd G4 t5 (.tup [V.ref t4]) = G5 at *
  have v3 : Same G5 (upd G5 t6 (.tup [V.str "x", V.int 0, V.int 0, V.ref t5])) := same_upd nt3
  generalize upd G5 t6 (.tup [V.str "x", V.int 0, V.int 0, V.ref t5]) = G6 at *
  have v13 := v1.trans (v2.trans v3)
  have m3 := v13 _ _ m3
  refine ⟨l3, _, 0, _, rfl, rfl, m3, by rw [List.length_map, hEl.1]; exact sizes' (by omega), by decide, by decide, ?_⟩
  have c3 : But l3 G6 (upd G6 l3 (.lst ((al.map V.ref).take (0 : Int).toNat ++ [V.ref t6] ++ (al.map V.ref).drop (0 : Int).toNat))) := But.set
  have j4 := (j3.keep v13).but c3 m3 (by simp)
  have m4 := c3 _ _ n34.symm (v13 _ _ m4)
  generalize upd G6 l3 (.lst ((al.map V.ref).take (0 : Int).toNat ++ [V.ref t6] ++ (al.map V.ref).drop (0 : Int).toNat)) = J4 at *
  clear v1 v2 v3 v13 nt1 nt2 nt3
  refine ⟨_, rfl, _, _, _, _, rfl, rfl, SqL.of j4.gv, at_of (j := 3) rfl rfl, .inl ⟨rfl, _, SqL.of m4⟩, (by show 3 ≤ sizeLine; decide), fun t7 nt1 => ⟨(by show 1 ≤ sizeLine; decide), fun t8 nt2 => ⟨(by show 3 ≤ sizeLine; decide), fun t9 nt3 => ?_⟩⟩⟩
  have v1 : Same J4 (upd J4 t7 (.tup [V.str "k", V.int 1, V.int 1])) := same_upd nt1
  generalize upd J4 t7 (.tup [V.str "k", V.int 1, V.int 1]) = G7 at *
  have v2 : Same G7 (upd G7 t8 (.tup [V.ref t7])) := same_upd nt2
  generalize upd G7 t8 (.tup [V.ref t7]) = G8 at *
  have v3 : Same G8 (upd G8 t9 (.tup [V.str "x", V.int 0, V.ref t8])) := same_upd nt3
  generalize upd G8 t9 (.tup [V.str "x", V.int 0, V.ref t8]) = G9 at *
  have v13 := v1.trans (v2.trans v3)
  have m4 := v13 _ _ m4
  refine ⟨_, _, _, rfl, rfl, m4, by rw [List.length_map, hEs.1]; exact sizes' (by omega), ?_⟩
  have c4 : But l4 G9 (upd G9 l4 (.lst (as.map V.ref ++ [V.ref t9]))) := But.set
  have j5 := (j4.keep v13).but c4 m4 (by simp)
  generalize upd G9 l4 (.lst (as.map V.ref ++ [V.ref t9])) = J5 at *
  clear v1 v2 v3 v13 nt1 nt2 nt3 c1 c2 c3 c4 m1 m2 m3 m4
  -- the other one
  obtain ⟨dy', y1', y2', y3', y4', hy5, hO5⟩ := j5.o
  have hk5 := hO5.f.d
  refine ⟨_, rfl, y, dy', _, rfl, hy5, y, otherF, rfl, j5.fo, rfl, _, rfl, ite2 (fun z => absurd (by rfl) (vne_int z)) (fun _ => ?_)⟩
  refine ⟨_, rfl, y, dy', _, rfl, hy5, no_Frame, y, otherF, 0, rfl, j5.fo, by decide, fun u1 J6 a6 _ eu1 => ⟨(by show 0 ≤ sizeLine; decide), fun u2 nu2 => ?_⟩⟩
  have a7 : Same J6 (upd J6 u2 (.lst [])) := same_upd nu2
  have e7 : (upd J6 u2 (.lst [])) u2 = some (.lst []) := upd_same
  refine ⟨PyData.list (([] : List Int).map PyData.int), PyData.list (([] : List Int).map PyData.int), ints_dp (ns := []) (SqL.of (a7 _ _ eu1)), ints_dp (ns := []) (SqL.of e7), rfl, rfl, by decide, _, rfl, ?_⟩
  rw [list_eqv int_plain]
  have j7 := j5.keep (a6.trans a7)
  have hy7 := (a6.trans a7) _ _ hy5
  have hk7 := (a6.trans a7) _ _ hk5
  generalize upd J6 u2 (.lst []) = J7 at *
  refine iteF ?_
  refine ⟨_, rfl, y, dy', _, rfl, hy7, no_Frame, y, otherF, 0, rfl, j7.fo, rfl, _, rfl, ite2 (fun z => absurd (by rfl) (vne_int z)) (fun _ => ?_)⟩
  refine ⟨_, rfl, y, CF, dy', _, _, rfl, hy7, TF.cl, TF.n_devices, lk_Frame_devices, (by show 1 ≤ sizeLine; decide), fun u3 nu3 => ?_⟩
  have a8 : Same J7 (upd J7 u3 (.lst [V.str "z"])) := same_upd nu3
  have e8 : (upd J7 u3 (.lst [V.str "z"])) u3 = some (.lst [V.str "z"]) := upd_same
  refine ⟨PyData.list ((["z"] : List Str).map PyData.str), PyData.list ((["z"] : List Str).map PyData.str), strs_dp (SqL.of (a8 _ _ hk7)), strs_dp (SqL.of e8), strl_plain _, strl_plain _, strl_depth _, _, rfl, ?_⟩
  rw [SeqAt.eqv_refl_plain _ (strl_plain ["z"])]
  have j8 := j7.keep a8
  generalize upd J7 u3 (.lst [V.str "z"]) = J8 at *
  refine iteF ?_
  -- the beginning
  refine ⟨_, rfl, (by show 2 ≤ sizeLine; decide), fun u4 nu4 => ?_⟩
  have a9 : Same J8 (upd J8 u4 (.tup [V.int (-1), V.int 0])) := same_upd nu4
  have e9 : (upd J8 u4 (.tup [V.int (-1), V.int 0])) u4 = some (.tup [V.int (-1), V.int 0]) := upd_same
  have hbp : (PyData.tuple [.int (-1), .int 0]).plain = true := rfl
  refine ⟨PyData.tuple [.int (-1), .int 0], PyData.tuple [.int (-1), .int 0], .tup (BG.sq _) (.cons (.int _) (.cons (.int _) .nil)), .tup (SqT.of e9) (.cons (.int _) (.cons (.int _) .nil)), rfl, rfl, by simp [PyData.depth, PyData.depthAll], _, rfl, ?_⟩
  rw [SeqAt.eqv_refl_plain _ hbp]
  have j9' := j8.keep a9
  generalize upd J8 u4 (.tup [V.int (-1), V.int 0]) = J9 at *
  refine iteF ⟨_, _, _, _, _, rfl, ClsV.ty "tuple", tyT (BG.sq _), kit_ty (r := true) (by decide +kernel), _, rfl, iteF ?_⟩
  refine ⟨_, rfl, _, rfl, x, t, F, rfl, j9'.fr, j9'.fm, _, rfl, iteT ⟨_, rfl, _, rfl, x, t, F, rfl, j9'.fr, j9'.fm, hk, fun J10 a10 => ⟨_, rfl, iteT ⟨_, rfl, _, rfl, x, t, F, rfl, (j9'.keep a10).fr, (j9'.keep a10).fm, hk, q _⟩⟩⟩⟩
end
theorem all_mk {l : PySem.W.OpenLaw} {w : World} {K : PySem.W.Frag} {h : Heap} {mg : Str → Option Value} {fa : Addr} (X : K.In h) (G : h.Ns mainGlobals mg) (hfa : mg "law" = some (.ref fa))
    {CF : Addr} {od0 an0 : Option Addr} {sl0 : Array (Option Value)} {oc0 kV0 dc0 pm0 cd0 ct0 : Value} {f0 : Addr} {od1 an1 : Option Addr} {sl1 : Array (Option Value)} {oc1 kV1 dc1 pm1 cd1 ct1 : Value} {f1 : Addr} {od2 an2 : Option Addr} {sl2 : Array (Option Value)} {oc2 kV2 dc2 pm2 cd2 ct2 : Value} {f2 : Addr} {od3 an3 : Option Addr} {sl3 : Array (Option Value)} {oc3 kV3 dc3 pm3 cd3 ct3 : Value} {f3 : Addr} {od4 an4 : Option Addr} {sl4 : Array (Option Value)} {oc4 kV4 dc4 pm4 cd4 ct4 : Value} {f4 : Addr} {od5 an5 : Option Addr} {sl5 : Array (Option Value)} {oc5 kV5 dc5 pm5 cd5 ct5 : Value} {f5 : Addr} {od6 an6 : Option Addr} {sl6 : Array (Option Value)} {oc6 kV6 dc6 pm6 cd6 ct6 : Value} {f6 : Addr} {od7 an7 : Option Addr} {sl7 : Array (Option Value)} {oc7 kV7 dc7 pm7 cd7 ct7 : Value} {f7 : Addr} {od8 an8 : Option Addr} {sl8 : Array (Option Value)} {oc8 kV8 dc8 pm8 cd8 ct8 : Value} {f8 : Addr} {od9 an9 : Option Addr} {sl9 : Array (Option Value)} {oc9 kV9 dc9 pm9 cd9 ct9 : Value} {f9 : Addr} {od10 an10 : Option Addr} {sl10 : Array (Option Value)} {oc10 kV10 dc10 pm10 cd10 ct10 : Value} {f10 : Addr} {pp10 : Addr} {rs10 : List Value} {od11 an11 : Option Addr} {sl11 : Array (Option Value)} {oc11 kV11 dc11 pm11 cd11 ct11 : Value} {f11 : Addr} {od12 an12 : Option Addr} {sl12 : Array (Option Value)} {oc12 kV12 dc12 pm12 cd12 ct12 : Value} {f12 : Addr} {od13 an13 : Option Addr} {sl13 : Array (Option Value)} {oc13 kV13 dc13 pm13 cd13 ct13 : Value} {f13 : Addr} {od14 an14 : Option Addr} {sl14 : Array (Option Value)} {oc14 kV14 dc14 pm14 cd14 ct14 : Value} {f14 : Addr} {od15 an15 : Option Addr} {sl15 : Array (Option Value)} {oc15 kV15 dc15 pm15 cd15 ct15 : Value} {f15 : Addr} {od16 an16 : Option Addr} {sl16 : Array (Option Value)} {oc16 kV16 dc16 pm16 cd16 ct16 : Value} {f16 : Addr} {od17 an17 : Option Addr} {sl17 : Array (Option Value)} {oc17 kV17 dc17 pm17 cd17 ct17 : Value} {f17 : Addr} {tB0 tB1 : Tok} {aB : Addr} {nB : Nat} {slB : Array (Option Value)}
    (aC_Frame : PySem.W.nsIn K mainGlobals "Frame" = some (some (.ref CF))) (pg_Frame : PySem.W.plainGet K CF Str.empty = true) (hd_Frame : PySem.W.hasDictIn K CF = true) (po_Frame : PySem.W.plainOver K CF = true) (sa_Frame : PySem.W.findIn K (.ref CF) "__setattr__" = some (some (.builtin "object.__setattr__"))) (mk_Frame : PySem.W.makesIn K CF = true) (kc_Frame : PySem.W.keepIn K (.ref CF) = true) (n_Frame_devices : PySem.W.findIn K (.ref CF) "devices" = some none) (n_Frame_clocks : PySem.W.findIn K (.ref CF) "clocks" = some none) (n_Frame_links : PySem.W.findIn K (.ref CF) "links" = some none) (n_Frame_sources : PySem.W.findIn K (.ref CF) "sources" = some none) (n_Frame_faults : PySem.W.findIn K (.ref CF) "faults" = some none)
    (a0 : PySem.W.nsIn K mainGlobals "_law_draws" = some (some (.ref f0)))
    (l0 : K.lookup f0 = some ⟨oc0, od0, .func (PySem.W.fnOf "_law_draws" "_law_draws" (defArgs s__law_draws) (defBody s__law_draws) (defScope s__law_draws) .none kV0 dc0 pm0 an0 cd0 ct0), sl0⟩) (c0 : PySem.W.codeIn K cd0 "_law_draws" = true) (k0 : PySem.W.keepIn K (.ref f0) = true)
    (a1 : PySem.W.nsIn K mainGlobals "_law_take" = some (some (.ref f1)))
    (l1 : K.lookup f1 = some ⟨oc1, od1, .func (PySem.W.fnOf "_law_take" "_law_take" (defArgs s__law_take) (defBody s__law_take) (defScope s__law_take) .none kV1 dc1 pm1 an1 cd1 ct1), sl1⟩) (c1 : PySem.W.codeIn K cd1 "_law_take" = true) (k1 : PySem.W.keepIn K (.ref f1) = true)
    (a2 : PySem.W.nsIn K mainGlobals "_law_word" = some (some (.ref f2)))
    (l2 : K.lookup f2 = some ⟨oc2, od2, .func (PySem.W.fnOf "_law_word" "_law_word" (defArgs s__law_word) (defBody s__law_word) (defScope s__law_word) .none kV2 dc2 pm2 an2 cd2 ct2), sl2⟩) (c2 : PySem.W.codeIn K cd2 "_law_word" = true) (k2 : PySem.W.keepIn K (.ref f2) = true)
    (a3 : PySem.W.nsIn K mainGlobals "_law_number" = some (some (.ref f3)))
    (l3 : K.lookup f3 = some ⟨oc3, od3, .func (PySem.W.fnOf "_law_number" "_law_number" (defArgs s__law_number) (defBody s__law_number) (defScope s__law_number) .none kV3 dc3 pm3 an3 cd3 ct3), sl3⟩) (c3 : PySem.W.codeIn K cd3 "_law_number" = true) (k3 : PySem.W.keepIn K (.ref f3) = true)
    (a4 : PySem.W.nsIn K mainGlobals "_law_kinds" = some (some (.ref f4)))
    (l4 : K.lookup f4 = some ⟨oc4, od4, .func (PySem.W.fnOf "_law_kinds" "_law_kinds" (defArgs s__law_kinds) (defBody s__law_kinds) (defScope s__law_kinds) .none kV4 dc4 pm4 an4 cd4 ct4), sl4⟩) (c4 : PySem.W.codeIn K cd4 "_law_kinds" = true) (k4 : PySem.W.keepIn K (.ref f4) = true)
    (a5 : PySem.W.nsIn K mainGlobals "_law_counts" = some (some (.ref f5)))
    (l5 : K.lookup f5 = some ⟨oc5, od5, .func (PySem.W.fnOf "_law_counts" "_law_counts" (defArgs s__law_counts) (defBody s__law_counts) (defScope s__law_counts) .none kV5 dc5 pm5 an5 cd5 ct5), sl5⟩) (c5 : PySem.W.codeIn K cd5 "_law_counts" = true) (k5 : PySem.W.keepIn K (.ref f5) = true)
    (a6 : PySem.W.nsIn K mainGlobals "_law_ways" = some (some (.ref f6)))
    (l6 : K.lookup f6 = some ⟨oc6, od6, .func (PySem.W.fnOf "_law_ways" "_law_ways" (defArgs s__law_ways) (defBody s__law_ways) (defScope s__law_ways) .none kV6 dc6 pm6 an6 cd6 ct6), sl6⟩) (c6 : PySem.W.codeIn K cd6 "_law_ways" = true) (k6 : PySem.W.keepIn K (.ref f6) = true)
    (a7 : PySem.W.nsIn K mainGlobals "_law_parts" = some (some (.ref f7)))
    (l7 : K.lookup f7 = some ⟨oc7, od7, .func (PySem.W.fnOf "_law_parts" "_law_parts" (defArgs s__law_parts) (defBody s__law_parts) (defScope s__law_parts) .none kV7 dc7 pm7 an7 cd7 ct7), sl7⟩) (c7 : PySem.W.codeIn K cd7 "_law_parts" = true) (k7 : PySem.W.keepIn K (.ref f7) = true)
    (a8 : PySem.W.nsIn K mainGlobals "_law_whole" = some (some (.ref f8)))
    (l8 : K.lookup f8 = some ⟨oc8, od8, .func (PySem.W.fnOf "_law_whole" "_law_whole" (defArgs s__law_whole) (defBody s__law_whole) (defScope s__law_whole) .none kV8 dc8 pm8 an8 cd8 ct8), sl8⟩) (c8 : PySem.W.codeIn K cd8 "_law_whole" = true) (k8 : PySem.W.keepIn K (.ref f8) = true)
    (a9 : PySem.W.nsIn K mainGlobals "_law_fields" = some (some (.ref f9)))
    (l9 : K.lookup f9 = some ⟨oc9, od9, .func (PySem.W.fnOf "_law_fields" "_law_fields" (defArgs s__law_fields) (defBody s__law_fields) (defScope s__law_fields) .none kV9 dc9 pm9 an9 cd9 ct9), sl9⟩) (c9 : PySem.W.codeIn K cd9 "_law_fields" = true) (k9 : PySem.W.keepIn K (.ref f9) = true)
    (a10 : PySem.W.findIn K (.ref CF) "part_count" = some (some (.ref pp10))) (g10 : PySem.W.specialIn K (.ref pp10) "__get__" = some (some (.builtin "property.__get__"))) (t10 : PySem.W.takesIn K (.ref pp10) = some true) (r10 : PySem.W.recIn K pp10 "property" = some (.ref f10 :: rs10))
    (l10 : K.lookup f10 = some ⟨oc10, od10, .func (PySem.W.fnOf "part_count" "Frame.part_count" (defArgs s_Frame_part_count) (defBody s_Frame_part_count) (defScope s_Frame_part_count) .none kV10 dc10 pm10 an10 cd10 ct10), sl10⟩) (c10 : PySem.W.codeIn K cd10 "Frame.part_count" = true) (k10 : PySem.W.keepIn K (.ref f10) = true)
    (a11 : PySem.W.findIn K (.ref CF) "link_part" = some (some (.ref f11))) (i11 : PySem.W.isFn K (.ref f11) = true)
    (l11 : K.lookup f11 = some ⟨oc11, od11, .func (PySem.W.fnOf "link_part" "Frame.link_part" (defArgs s_Frame_link_part) (defBody s_Frame_link_part) (defScope s_Frame_link_part) .none kV11 dc11 pm11 an11 cd11 ct11), sl11⟩) (c11 : PySem.W.codeIn K cd11 "Frame.link_part" = true) (k11 : PySem.W.keepIn K (.ref f11) = true)
    (a12 : PySem.W.findIn K (.ref CF) "source_part" = some (some (.ref f12))) (i12 : PySem.W.isFn K (.ref f12) = true)
    (l12 : K.lookup f12 = some ⟨oc12, od12, .func (PySem.W.fnOf "source_part" "Frame.source_part" (defArgs s_Frame_source_part) (defBody s_Frame_source_part) (defScope s_Frame_source_part) .none kV12 dc12 pm12 an12 cd12 ct12), sl12⟩) (c12 : PySem.W.codeIn K cd12 "Frame.source_part" = true) (k12 : PySem.W.keepIn K (.ref f12) = true)
    (a13 : PySem.W.nsIn K mainGlobals "_law_numbers" = some (some (.ref f13)))
    (l13 : K.lookup f13 = some ⟨oc13, od13, .func (PySem.W.fnOf "_law_numbers" "_law_numbers" (defArgs s__law_numbers) (defBody s__law_numbers) (defScope s__law_numbers) .none kV13 dc13 pm13 an13 cd13 ct13), sl13⟩) (c13 : PySem.W.codeIn K cd13 "_law_numbers" = true) (k13 : PySem.W.keepIn K (.ref f13) = true)
    (a14 : PySem.W.findIn K (.ref CF) "clocks_of" = some (some (.ref f14))) (i14 : PySem.W.isFn K (.ref f14) = true)
    (l14 : K.lookup f14 = some ⟨oc14, od14, .func (PySem.W.fnOf "clocks_of" "Frame.clocks_of" (defArgs s_Frame_clocks_of) (defBody s_Frame_clocks_of) (defScope s_Frame_clocks_of) .none kV14 dc14 pm14 an14 cd14 ct14), sl14⟩) (c14 : PySem.W.codeIn K cd14 "Frame.clocks_of" = true) (k14 : PySem.W.keepIn K (.ref f14) = true)
    (a15 : PySem.W.nsIn K mainGlobals "_law_clocks" = some (some (.ref f15)))
    (l15 : K.lookup f15 = some ⟨oc15, od15, .func (PySem.W.fnOf "_law_clocks" "_law_clocks" (defArgs s__law_clocks) (defBody s__law_clocks) (defScope s__law_clocks) .none kV15 dc15 pm15 an15 cd15 ct15), sl15⟩) (c15 : PySem.W.codeIn K cd15 "_law_clocks" = true) (k15 : PySem.W.keepIn K (.ref f15) = true)
    (a16 : PySem.W.findIn K (.ref CF) "__init__" = some (some (.ref f16))) (i16 : PySem.W.isFn K (.ref f16) = true)
    (l16 : K.lookup f16 = some ⟨oc16, od16, .func (PySem.W.fnOf "__init__" "Frame.__init__" (defArgs s_Frame___init__) (defBody s_Frame___init__) (defScope s_Frame___init__) .none kV16 dc16 pm16 an16 cd16 ct16), sl16⟩) (c16 : PySem.W.codeIn K cd16 "Frame.__init__" = true) (k16 : PySem.W.keepIn K (.ref f16) = true)
    (a17 : PySem.W.nsIn K mainGlobals "law" = some (some (.ref f17)))
    (l17 : K.lookup f17 = some ⟨oc17, od17, .func (PySem.W.fnOf "law" "law" (defArgs s_law) (defBody s_law) (defScope s_law) .none kV17 dc17 pm17 an17 cd17 ct17), sl17⟩) (c17 : PySem.W.codeIn K cd17 "law" = true) (k17 : PySem.W.keepIn K (.ref f17) = true)
    (z_len : PySem.W.nsIn K mainGlobals "len" = some none)
    (z_str : PySem.W.nsIn K mainGlobals "str" = some none)
    (z_int : PySem.W.nsIn K mainGlobals "int" = some none)
    (z_range : PySem.W.nsIn K mainGlobals "range" = some none)
    (z_tuple : PySem.W.nsIn K mainGlobals "tuple" = some none)
    (z_list : PySem.W.nsIn K mainGlobals "list" = some none)
    (z_isinstance : PySem.W.nsIn K mainGlobals "isinstance" = some none)
    (z_bool : PySem.W.nsIn K mainGlobals "bool" = some none)
    (z_all : PySem.W.nsIn K mainGlobals "all" = some none)
    (z_min : PySem.W.nsIn K mainGlobals "min" = some none)
    (z_sum : PySem.W.nsIn K mainGlobals "sum" = some none)
    (z_enumerate : PySem.W.nsIn K mainGlobals "enumerate" = some none)
    (aBm : PySem.W.nsIn K mainGlobals "BEGINNING" = some (some (.ref aB))) (lB : K.lookup aB = some ⟨.type "tuple", none, .seq #[.int (-1) tB0, .int 0 tB1] nB, slB⟩) :
    ∃ fd : FuncData, (∀ (s : Shared) (v : Value), BindsTo s fd ⟨[v], []⟩ [("script", v)]) ∧ ∀ base : Heap, K.In base → base.Ns mainGlobals mg → FnOk l.prog w K mg base CX0 5 fa fd ["script"] (sp_law K) := by
  have e := hfa.symm.trans (PySem.W.mg_of X G a17)
  cases e
  have TF : Ck_Frame K mg CF := ⟨⟨pg_Frame, hd_Frame, po_Frame, sa_Frame⟩, PySem.W.mg_of X G aC_Frame, n_Frame_devices, n_Frame_clocks, n_Frame_links, n_Frame_sources, n_Frame_faults⟩
  have F0 := fun_mk (st := s__law_draws) l0 c0 k0
  have D__law_draws : Df K mg "_law_draws" s__law_draws ["script", "count"] _ _ := ⟨F0, F0.binds (ps := ["script", "count"]) fun _ _ _ _ _ _ us hl => match us, hl with | [_, _], _ => rfl, PySem.W.mg_of X G a0⟩
  have F1 := fun_mk (st := s__law_take) l1 c1 k1
  have D__law_take : Df K mg "_law_take" s__law_take ["rows", "at", "many"] _ _ := ⟨F1, F1.binds (ps := ["rows", "at", "many"]) fun _ _ _ _ _ _ us hl => match us, hl with | [_, _, _], _ => rfl, PySem.W.mg_of X G a1⟩
  have F2 := fun_mk (st := s__law_word) l2 c2 k2
  have D__law_word : Df K mg "_law_word" s__law_word ["rows", "at", "used", "pool"] _ _ := ⟨F2, F2.binds (ps := ["rows", "at", "used", "pool"]) fun _ _ _ _ _ _ us hl => match us, hl with | [_, _, _, _], _ => rfl, PySem.W.mg_of X G a2⟩
  have F3 := fun_mk (st := s__law_number) l3 c3 k3
  have D__law_number : Df K mg "_law_number" s__law_number ["rows", "at", "least"] _ _ := ⟨F3, F3.binds (ps := ["rows", "at", "least"]) fun _ _ _ _ _ _ us hl => match us, hl with | [_, _, _], _ => rfl, PySem.W.mg_of X G a3⟩
  have F4 := fun_mk (st := s__law_kinds) l4 c4 k4
  have D__law_kinds : Df K mg "_law_kinds" s__law_kinds ["rows", "at", "sort"] _ _ := ⟨F4, F4.binds (ps := ["rows", "at", "sort"]) fun _ _ _ _ _ _ us hl => match us, hl with | [_, _, _], _ => rfl, PySem.W.mg_of X G a4⟩
  have F5 := fun_mk (st := s__law_counts) l5 c5 k5
  have D__law_counts : Df K mg "_law_counts" s__law_counts ["rows", "many"] _ _ := ⟨F5, F5.binds (ps := ["rows", "many"]) fun _ _ _ _ _ _ us hl => match us, hl with | [_, _], _ => rfl, PySem.W.mg_of X G a5⟩
  have F6 := fun_mk (st := s__law_ways) l6 c6 k6
  have D__law_ways : Df K mg "_law_ways" s__law_ways ["rows", "many", "pairs"] _ _ := ⟨F6, F6.binds (ps := ["rows", "many", "pairs"]) fun _ _ _ _ _ _ us hl => match us, hl with | [_, _, _], _ => rfl, PySem.W.mg_of X G a6⟩
  have F7 := fun_mk (st := s__law_parts) l7 c7 k7
  have D__law_parts : Df K mg "_law_parts" s__law_parts ["rows"] _ _ := ⟨F7, F7.binds (ps := ["rows"]) fun _ _ _ _ _ _ us hl => match us, hl with | [_], _ => rfl, PySem.W.mg_of X G a7⟩
  have F8 := fun_mk (st := s__law_whole) l8 c8 k8
  have D__law_whole : Df K mg "_law_whole" s__law_whole ["told"] _ _ := ⟨F8, F8.binds (ps := ["told"]) fun _ _ _ _ _ _ us hl => match us, hl with | [_], _ => rfl, PySem.W.mg_of X G a8⟩
  have F9 := fun_mk (st := s__law_fields) l9 c9 k9
  have D__law_fields : Df K mg "_law_fields" s__law_fields ["told", "frame"] _ _ := ⟨F9, F9.binds (ps := ["told", "frame"]) fun _ _ _ _ _ _ us hl => match us, hl with | [_, _], _ => rfl, PySem.W.mg_of X G a9⟩
  have F10 := fun_mk (st := s_Frame_part_count) l10 c10 k10
  have M_Frame_part_count : Pr K CF "part_count" "Frame.part_count" s_Frame_part_count ["self"] _ _ := ⟨F10, F10.binds (ps := ["self"]) fun _ _ _ _ _ _ us hl => match us, hl with | [_], _ => rfl, ⟨_, a10, g10, t10, ⟨_, r10⟩⟩⟩
  have F11 := fun_mk (st := s_Frame_link_part) l11 c11 k11
  have M_Frame_link_part : Mt K CF "link_part" "Frame.link_part" s_Frame_link_part ["self", "link"] _ _ := ⟨F11, F11.binds (ps := ["self", "link"]) fun _ _ _ _ _ _ us hl => match us, hl with | [_, _], _ => rfl, ⟨a11, i11, k11⟩⟩
  have F12 := fun_mk (st := s_Frame_source_part) l12 c12 k12
  have M_Frame_source_part : Mt K CF "source_part" "Frame.source_part" s_Frame_source_part ["self", "source"] _ _ := ⟨F12, F12.binds (ps := ["self", "source"]) fun _ _ _ _ _ _ us hl => match us, hl with | [_, _], _ => rfl, ⟨a12, i12, k12⟩⟩
  have F13 := fun_mk (st := s__law_numbers) l13 c13 k13
  have D__law_numbers : Df K mg "_law_numbers" s__law_numbers ["told", "frame"] _ _ := ⟨F13, F13.binds (ps := ["told", "frame"]) fun _ _ _ _ _ _ us hl => match us, hl with | [_, _], _ => rfl, PySem.W.mg_of X G a13⟩
  have F14 := fun_mk (st := s_Frame_clocks_of) l14 c14 k14
  have M_Frame_clocks_of : Mt K CF "clocks_of" "Frame.clocks_of" s_Frame_clocks_of ["self", "device"] _ _ := ⟨F14, F14.binds (ps := ["self", "device"]) fun _ _ _ _ _ _ us hl => match us, hl with | [_, _], _ => rfl, ⟨a14, i14, k14⟩⟩
  have F15 := fun_mk (st := s__law_clocks) l15 c15 k15
  have D__law_clocks : Df K mg "_law_clocks" s__law_clocks ["told", "frame"] _ _ := ⟨F15, F15.binds (ps := ["told", "frame"]) fun _ _ _ _ _ _ us hl => match us, hl with | [_, _], _ => rfl, PySem.W.mg_of X G a15⟩
  have F16 := fun_mk (st := s_Frame___init__) l16 c16 k16
  have M_Frame___init__ : Mt K CF "__init__" "Frame.__init__" s_Frame___init__ ["self", "devices", "clocks", "links", "sources", "faults"] _ _ := ⟨F16, F16.binds (ps := ["self", "devices", "clocks", "links", "sources", "faults"]) fun _ _ _ _ _ _ us hl => match us, hl with | [_, _, _, _, _, _], _ => rfl, ⟨a16, i16, k16⟩⟩
  have MF : Mk K CF _ := ⟨mk_Frame, a16, i16, kc_Frame⟩
  have F17 := fun_mk (st := s_law) l17 c17 k17
  have D_law : Df K mg "law" s_law ["script"] _ _ := ⟨F17, F17.binds (ps := ["script"]) fun _ _ _ _ _ _ us hl => match us, hl with | [_], _ => rfl, PySem.W.mg_of X G a17⟩
  have BG : Begin K mg aB := ⟨PySem.W.mg_of X G aBm, fun H => .inr ⟨_, _, _, lB, rfl, rfl, (show 2 ≤ sizeLine by decide), .cons ⟨_, rfl⟩ (.cons ⟨_, rfl⟩ .nil)⟩⟩
  have T : Txt K mg := ⟨PySem.W.mg_none_of X G z_len, PySem.W.mg_none_of X G z_str, PySem.W.mg_none_of X G z_int, PySem.W.mg_none_of X G z_range, PySem.W.mg_none_of X G z_tuple, PySem.W.mg_none_of X G z_list, PySem.W.mg_none_of X G z_isinstance, PySem.W.mg_none_of X G z_bool, PySem.W.mg_none_of X G z_all, PySem.W.mg_none_of X G z_min, PySem.W.mg_none_of X G z_sum, PySem.W.mg_none_of X G z_enumerate⟩
  refine ⟨PySem.W.fnOf "law" "law" (defArgs s_law) (defBody s_law) (defScope s_law) .none kV17 dc17 pm17 an17 cd17 ct17, fun s v => .of_eq rfl, fun base _ _ => ?_⟩
  have G__law_draws : FnOk l.prog w K mg base CX0 1 _ _ ["script", "count"] (sp__law_draws K) := ok__law_draws D__law_draws T  
  have G__law_take : FnOk l.prog w K mg base CX0 1 _ _ ["rows", "at", "many"] (sp__law_take K) := ok__law_take D__law_take T  
  have G__law_word : FnOk l.prog w K mg base CX0 2 _ _ ["rows", "at", "used", "pool"] (sp__law_word K) := ok__law_word D__law_word T  D__law_take G__law_take
  have G__law_number : FnOk l.prog w K mg base CX0 2 _ _ ["rows", "at", "least"] (sp__law_number K) := ok__law_number D__law_number T  D__law_take G__law_take
  have G__law_kinds : FnOk l.prog w K mg base CX0 3 _ _ ["rows", "at", "sort"] (sp__law_kinds K) := ok__law_kinds D__law_kinds T  D__law_take G__law_take D__law_word G__law_word D__law_number G__law_number
  have G__law_counts : FnOk l.prog w K mg base CX0 2 _ _ ["rows", "many"] (sp__law_counts K) := ok__law_counts D__law_counts T  D__law_take G__law_take
  have G__law_ways : FnOk l.prog w K mg base CX0 2 _ _ ["rows", "many", "pairs"] (sp__law_ways K) := ok__law_ways D__law_ways T  D__law_take G__law_take
  have G__law_parts : FnOk l.prog w K mg base CX0 4 _ _ ["rows"] (sp__law_parts K) := ok__law_parts D__law_parts T  D__law_take G__law_take D__law_word G__law_word D__law_kinds G__law_kinds D__law_counts G__law_counts D__law_ways G__law_ways
  have G__law_whole : FnOk l.prog w K mg base CX0 1 _ _ ["told"] (sp__law_whole K) := ok__law_whole D__law_whole T  
  have G__law_fields : FnOk l.prog w K mg base CX0 2 _ _ ["told", "frame"] (sp__law_fields K CF) := ok__law_fields TF D__law_fields T  D__law_whole G__law_whole
  have G_Frame_part_count : FnOk l.prog w K mg base CX0 1 _ _ ["self"] (sp_Frame_part_count K CF) := ok_Frame_part_count TF M_Frame_part_count T  
  have G_Frame_link_part : FnOk l.prog w K mg base CX0 1 _ _ ["self", "link"] (sp_Frame_link_part K CF) := ok_Frame_link_part TF M_Frame_link_part T  
  have G_Frame_source_part : FnOk l.prog w K mg base CX0 1 _ _ ["self", "source"] (sp_Frame_source_part K CF) := ok_Frame_source_part TF M_Frame_source_part T  
  have G__law_numbers : FnOk l.prog w K mg base CX0 3 _ _ ["told", "frame"] (sp__law_numbers K CF) := ok__law_numbers TF D__law_numbers T  D__law_whole G__law_whole M_Frame_part_count G_Frame_part_count M_Frame_link_part G_Frame_link_part M_Frame_source_part G_Frame_source_part
  have G_Frame_clocks_of : FnOk l.prog w K mg base CX0 1 _ _ ["self", "device"] (sp_Frame_clocks_of K CF) := ok_Frame_clocks_of TF M_Frame_clocks_of T  
  have G__law_clocks : FnOk l.prog w K mg base CX0 2 _ _ ["told", "frame"] (sp__law_clocks K CF) := ok__law_clocks TF D__law_clocks T  M_Frame_clocks_of G_Frame_clocks_of
  have G_Frame___init__ : FnOk l.prog w K mg base CX0 1 _ _ ["self", "devices", "clocks", "links", "sources", "faults"] (sp_Frame___init__ K CF) := ok_Frame___init__ TF M_Frame___init__ T  
  have G_law : FnOk l.prog w K mg base CX0 5 _ _ ["script"] (sp_law K) := ok_law TF MF D_law T BG D__law_draws G__law_draws D__law_parts G__law_parts D__law_fields G__law_fields D__law_numbers G__law_numbers D__law_clocks G__law_clocks M_Frame___init__ G_Frame___init__ M_Frame_part_count G_Frame_part_count M_Frame_clocks_of G_Frame_clocks_of M_Frame_source_part G_Frame_source_part
  exact G_law
theorem walk {l : PySem.W.OpenLaw} {q : Program} {loose : List Str} {XP : (Str → Option Value) → Heap → Prop} {YP : World → Heap → Prop} {d : DefRec} {K : Params → PySem.W.Frag} (hn : l.most = some 63) (hdf : d.params.defaults = [])
    (hY : ∀ (w : World) (h : Heap), YP w h → (K w.params).In h)
    (F : ∀ (w : World) (mg : Str → Option Value) (fa : Addr) (h : Heap), (K w.params).In h → h.Ns mainGlobals mg → mg d.name = some (.ref fa) →
      ∃ fd : FuncData, (∀ (s : Shared) (u : Value), BindsTo s fd ⟨[u], []⟩ [("script", u)]) ∧ ∀ base : Heap, (K w.params).In base → base.Ns mainGlobals mg → FnOk l.prog w (K w.params) mg base CX0 5 fa fd ["script"] (sp_law (K w.params))) :
    PySem.W.WalkO q loose XP YP l.row.toRowW d [] (fun f vs => PySem.call f vs) :=
  L2.walk_of (n := 63) (k := 5) (x := "script") (CX := fun _ => CX0) (sp := fun w => sp_law (K w.params)) hn (by decide) hdf ⟨rfl, by decide, by decide⟩ hY F (fun _ _ a ns hl _ hS => ⟨a, ns, rfl, hS, hl, fun _ => rfl⟩) fun _ _ _ _ _ z => z
end Vs
open PySem PySem.W PyProof.Rows
set_option maxRecDepth 100000 in
set_option maxHeartbeats 0 in
theorem PySem.Challenge.cw_whensure_k01_parts_are_numbered_holds : PySem.Challenge.rw_whensure_k01_parts_are_numbered.Holds := by
  w_on; o_law; k_head; (case hw => w_witness2)
  k_fill
  refine Vs.walk (l := PySem.Challenge.rw_whensure_k01_parts_are_numbered) rfl rfl (fun w h Y => PySem.W.kIn_of Y) ?F
  case F =>
    intro w mg fa h KX G hmg
    refine' Vs.all_mk KX G hmg ?aC_Frame ?pg_Frame ?hd_Frame ?po_Frame ?sa_Frame ?mk_Frame ?kc_Frame ?n_Frame_devices ?n_Frame_clocks ?n_Frame_links ?n_Frame_sources ?n_Frame_faults ?a0 ?l0 ?c0 ?k0 ?a1 ?l1 ?c1 ?k1 ?a2 ?l2 ?c2 ?k2 ?a3 ?l3 ?c3 ?k3 ?a4 ?l4 ?c4 ?k4 ?a5 ?l5 ?c5 ?k5 ?a6 ?l6 ?c6 ?k6 ?a7 ?l7 ?c7 ?k7 ?a8 ?l8 ?c8 ?k8 ?a9 ?l9 ?c9 ?k9 ?a10 ?g10 ?t10 ?r10 ?l10 ?c10 ?k10 ?a11 ?i11 ?l11 ?c11 ?k11 ?a12 ?i12 ?l12 ?c12 ?k12 ?a13 ?l13 ?c13 ?k13 ?a14 ?i14 ?l14 ?c14 ?k14 ?a15 ?l15 ?c15 ?k15 ?a16 ?i16 ?l16 ?c16 ?k16 ?a17 ?l17 ?c17 ?k17 ?z_len ?z_str ?z_int ?z_range ?z_tuple ?z_list ?z_isinstance ?z_bool ?z_all ?z_min ?z_sum ?z_enumerate ?aBm ?lB
    (case aC_Frame => k_is)
    (case pg_Frame => k_is)
    (case hd_Frame => k_is)
    (case po_Frame => k_is)
    (case sa_Frame => k_is)
    (case mk_Frame => k_is)
    (case kc_Frame => k_is)
    (case n_Frame_devices => k_is)
    (case n_Frame_clocks => k_is)
    (case n_Frame_links => k_is)
    (case n_Frame_sources => k_is)
    (case n_Frame_faults => k_is)
    (case a0 => k_is)
    (case l0 => k_is)
    (case c0 => k_is)
    (case k0 => k_is)
    (case a1 => k_is)
    (case l1 => k_is)
    (case c1 => k_is)
    (case k1 => k_is)
    (case a2 => k_is)
    (case l2 => k_is)
    (case c2 => k_is)
    (case k2 => k_is)
    (case a3 => k_is)
    (case l3 => k_is)
    (case c3 => k_is)
    (case k3 => k_is)
    (case a4 => k_is)
    (case l4 => k_is)
    (case c4 => k_is)
    (case k4 => k_is)
    (case a5 => k_is)
    (case l5 => k_is)
    (case c5 => k_is)
    (case k5 => k_is)
    (case a6 => k_is)
    (case l6 => k_is)
    (case c6 => k_is)
    (case k6 => k_is)
    (case a7 => k_is)
    (case l7 => k_is)
    (case c7 => k_is)
    (case k7 => k_is)
    (case a8 => k_is)
    (case l8 => k_is)
    (case c8 => k_is)
    (case k8 => k_is)
    (case a9 => k_is)
    (case l9 => k_is)
    (case c9 => k_is)
    (case k9 => k_is)
    (case a10 => k_is)
    (case g10 => k_is)
    (case t10 => k_is)
    (case r10 => k_is)
    (case l10 => k_is)
    (case c10 => k_is)
    (case k10 => k_is)
    (case a11 => k_is)
    (case i11 => k_is)
    (case l11 => k_is)
    (case c11 => k_is)
    (case k11 => k_is)
    (case a12 => k_is)
    (case i12 => k_is)
    (case l12 => k_is)
    (case c12 => k_is)
    (case k12 => k_is)
    (case a13 => k_is)
    (case l13 => k_is)
    (case c13 => k_is)
    (case k13 => k_is)
    (case a14 => k_is)
    (case i14 => k_is)
    (case l14 => k_is)
    (case c14 => k_is)
    (case k14 => k_is)
    (case a15 => k_is)
    (case l15 => k_is)
    (case c15 => k_is)
    (case k15 => k_is)
    (case a16 => k_is)
    (case i16 => k_is)
    (case l16 => k_is)
    (case c16 => k_is)
    (case k16 => k_is)
    (case a17 => k_is)
    (case l17 => k_is)
    (case c17 => k_is)
    (case k17 => k_is)
    (case z_len => k_is)
    (case z_str => k_is)
    (case z_int => k_is)
    (case z_range => k_is)
    (case z_tuple => k_is)
    (case z_list => k_is)
    (case z_isinstance => k_is)
    (case z_bool => k_is)
    (case z_all => k_is)
    (case z_min => k_is)
    (case z_sum => k_is)
    (case z_enumerate => k_is)
    (case aBm => k_is)
    (case lB => k_is)
#print axioms PySem.Challenge.cw_whensure_k01_parts_are_numbered_holds
