import PyProof.Rows.All
import Wide.All
import OpenK.AllK
import Wide.FinOn
import KE.GoesEnum
import HandS.ForMost
import HandS.IsInst
import HandS.Flow
import HandS.Walk
import HandS.Zip
import HandS.Style
import HandS.Defaults
import HandS.Evl
import HandS.ForExc
import HandS.ExcInit
import HandS.ClsMeth
import HandS.FStr
import HandS.Steps
import HandS.ExcIs
import HandS.WordsExc
import HandS.TupAny
import PySem.Challenge.RW_fieldtable_k15_whole_octets
set_option Elab.async false
set_option linter.all false
set_option maxRecDepth 100000
set_option maxHeartbeats 4000000
namespace Fld
open PySem PySem.Spec PyProof.Rows L2
/-! ### a written dict whose keys are ints -/
def EntI : List DictEntry → List (Int × V) → Prop := Paired fun (e : DictEntry) (p : Int × V) => (∃ t, e.key = Value.int p.1 t) ∧ e.hash = hashInt p.1 ∧ RelV p.2 e.val
structure IDict (K : PySem.W.Frag) (d : Addr) (kvs : List (Int × V)) : Prop where
  ex : ∃ es n, K.lookup d = some ⟨.type "dict", none, .dict es n, #[]⟩ ∧ EntI es.toList kvs
  low : (d == sysModules) = false
def valI (kvs : List (Int × V)) (k : Int) : Option V := (kvs.find? fun p => p.1 == k).map (·.2)
theorem findI : ∀ {es : List DictEntry} {kvs : List (Int × V)} (k : Int), EntI es kvs → RelO (valI kvs k) ((es.find? fun e => Value.isInt k e.key).map (·.val))
  | _, _, k, .nil => True.intro
  | e :: es, p :: kvs, k, .cons h t => by
    obtain ⟨⟨u, e1⟩, e2, e3⟩ := h
    have ih := findI k t
    unfold valI
    rw [List.find?_cons, List.find?_cons, e1]
    by_cases c : p.1 = k
    · subst c
      have q : Value.isInt p.1 (Value.int p.1 u) = true := by simp [Value.isInt]
      rw [q]
      simp only [beq_self_eq_true, Option.map_some]
      exact e3
    · have q : Value.isInt k (Value.int p.1 u) = false := by simp [Value.isInt, c]
      have q2 : (p.1 == k) = false := by simp [c]
      rw [q, q2]
      exact ih
section
variable {X : Cx} {d : Addr} {kvs : List (Int × V)}
theorem IDict.map (D : IDict X.K d kvs) {h : Heap} (I : X.K.In h) : ∃ es : Array DictEntry, h.MapOf (intKind X.prog X.w) d (fun k => findBy Value.isInt es k) ∧ EntI es.toList kvs := by
  obtain ⟨es, n, l, e⟩ := D.ex
  refine ⟨es, ⟨_, es, n, I _ _ l, ⟨rfl, rfl, rfl⟩, rfl, fun x hx => ?_, fun _ => rfl⟩, e⟩
  have mem : ∀ {es : List DictEntry} {kvs : List (Int × V)}, EntI es kvs → ∀ x ∈ es, ∃ k t, x.key = Value.int k t ∧ x.hash = hashInt k := by
    intro es kvs r
    induction r with
    | nil => intro x hx; cases hx
    | cons h t ih =>
      intro x hx
      rcases List.mem_cons.mp hx with rfl | hx
      · obtain ⟨⟨u, e1⟩, e2, _⟩ := h
        exact ⟨_, u, e1, e2⟩
      · exact ih x hx
  obtain ⟨k, t, e1, e2⟩ := mem e x (Array.mem_toList_iff.mpr hx)
  exact ⟨k, by rw [e1]; exact intKind_is _ _ k t, e2⟩
theorem findE {es : Array DictEntry} (e : EntI es.toList kvs) (k : Int) : RelO (valI kvs k) (findBy Value.isInt es k) := by
  obtain ⟨l⟩ := es
  have := findI k e
  unfold findBy
  rw [List.find?_toArray]
  exact this
theorem isSome_of {a : Option V} {b : Option Value} (r : RelO a b) : b.isSome = a.isSome := by
  cases a <;> cases b <;> first | rfl | exact r.elim
/-- k in d, d a written dict with int keys -/
def rInI (d : Addr) (kvs : List (Int × V)) : R2 := fun x y H Q => ∃ k : Int, x = .int k ∧ y = .ref d ∧ Q (.bl (valI kvs k).isSome) H
theorem op_in_kdI (D : IDict X.K d kvs) : OpR X (compareOp .In) (rInI d kvs) := by
  intro pins s σ H x y v u Q I rx ry h
  obtain ⟨k, rfl, rfl, q⟩ := h
  obtain ⟨t, rfl⟩ := rx
  cases ry
  obtain ⟨es, m, e⟩ := D.map I.kIn
  refine wpAny_in_of (PySem.intKind_is X.prog X.w k t) D.low m ?_
  rw [isSome_of (findE e k)]
  exact ⟨.bl _, H, I.tok _, rfl, q⟩
/-- d[k] -/
def rIxI (d : Addr) (kvs : List (Int × V)) : R2 := fun x y H Q => ∃ (k : Int) (v : V), x = .ref d ∧ y = .int k ∧ valI kvs k = some v ∧ Q v H
theorem ix_kdI (D : IDict X.K d kvs) : IxR X (rIxI d kvs) := by
  intro value slice pins s σ H x y v u Q I rx ry h hs
  obtain ⟨k, z, rfl, rfl, hv, q⟩ := h
  cases rx
  obtain ⟨t, rfl⟩ := ry
  obtain ⟨es, m, e⟩ := D.map I.kIn
  have r := findE e k
  rw [hv] at r
  obtain ⟨u0, e0, ru⟩ := RelO.some_of r
  exact tail_any m.typeIs slot_dict_getitem.lookup (wpAny_getItem_of (PySem.intKind_is X.prog X.w k t) m e0 ⟨z, H, I.tok _, ru, q⟩) hs
end
/-! ### text * int -/
def repS (x : Str) (n : Nat) : Str := ⟨(List.replicate n x.cps.toList).flatten.toArray⟩
theorem foldl_app : ∀ (k : Nat) (xs : Array Nat) (acc : Array Nat), (List.replicate k xs).foldl (· ++ ·) acc = acc ++ (List.replicate k xs.toList).flatten.toArray
  | 0, xs, acc => by simp
  | k + 1, xs, acc => by
    rw [List.replicate_succ, List.foldl_cons, foldl_app k xs, List.replicate_succ, List.flatten_cons]
    apply Array.ext'
    simp [List.append_assoc]
theorem repS_tl (x : Str) (n : Nat) : (repS x n).cps.toList = (List.replicate n x.cps.toList).flatten := rfl
theorem op_mul_str {X : Cx} : OpR X (binaryOp .Mult) (fun x y H Q => ∃ (z : Str) (k : Int), x = .str z ∧ y = .int k ∧ 1 < k ∧ k < 1000 ∧ 0 < z.length ∧ z.length ≤ 1000 ∧ Q (.str (repS z k.toNat)) H) := by
  intro pins s σ H x y v u Q I rx ry h
  obtain ⟨z, k, rfl, rfl, h1, h2, h3, h4, q⟩ := h
  obtain ⟨t, rfl⟩ := rx
  obtain ⟨t', rfl⟩ := ry
  have hlen : (z.length == 0) = false := by simp; omega
  have hk1 : (k == 1) = false := by simp; omega
  refine PySem.P.mul_str (by
      rw [decide_eq_false (by omega), decide_eq_false (by omega)]; rfl) (fun _ _ => ?_) (fun _ _ => ?_) ?_
  · have : (1000 : Int) ≤ (2 ^ 63 - 1) / k := by
      rw [Int.le_ediv_iff_mul_le (by omega)]
      omega
    omega
  · have a1 : z.length * k.toNat ≤ 1000 * 1000 := Nat.mul_le_mul h4 (by omega)
    have a2 : ¬ (z.length * k.toNat > sizeLine) := by rw [sizeLine_eq]; omega
    show (decide _) = false
    first | exact decide_eq_false a2 | simp [a2]
  · rw [if_neg (by omega), hk1, hlen]
    simp only [Bool.or_self, Bool.false_eq_true, if_false]
    have e : (⟨(List.replicate k.toNat z.cps).foldl (· ++ ·) #[]⟩ : Str) = repS z k.toNat := by
      unfold repS
      rw [foldl_app]
      simp
    rw [e]
    refine ⟨?_, ⟨.str (repS z k.toNat), H, I.tok _, ⟨_, rfl⟩, q⟩⟩
    have a1 : z.length * k.toNat ≤ 1000 * 1000 := Nat.mul_le_mul h4 (by omega)
    have e2 : (repS z k.toNat).length = k.toNat * z.length := by
      show (List.replicate k.toNat z.cps.toList).flatten.toArray.size = _
      simp
      rfl
    rw [Nat.mul_comm] at a1
    first
      | exact decide_eq_false (by rw [e2, sizeLine_eq]; omega)
      | (rw [e2]; simp [sizeLine_eq]; omega)
      | (rw [e2, sizeLine_eq]; omega)
end Fld
namespace Fld
open PySem PySem.Spec PyProof.Rows L2
/-! ### enumerate(text) -/
/-- the signs of x, each in a new pair with its place -/
def ItS (x : Str) : It :=
  ⟨fun i H => i < x.cps.size, fun i H v H' => ∃ T c, v = .ref T ∧ H T = none ∧ H' = upd H T (.tup [.int (i : Nat), .str ⟨#[c]⟩]) ∧ x.cps[i]? = some c, fun i H => x.cps.size ≤ i⟩
theorem turn_enumS {P : Program} {w : World} {K : PySem.W.Frag} {elts : List Expr} {kk : Nat} {tpos : Pos} (x : Str) (t : Tok) (e it : Addr) :
    Turn P w K (.Tuple elts kk tpos) (ItS x) [e, it] e (fun i h => (∃ old, IsEnum h e it ((i : Nat) : Int) old) ∧ h.IsStrIter it (strIterType x) x t i ∧ e ≠ it ∧ i ≤ x.cps.size) where
  mem := by simp
  obj := fun i h st b hb => by
    obtain ⟨⟨old, he⟩, hi, _⟩ := st
    have e' : b = e ∨ b = it := by simpa using hb
    rcases e' with z | z
    · rw [z]; exact ⟨_, he, fun v q => nomatch q⟩
    · rw [z]; obtain ⟨o, ho, hc, hd⟩ := hi; exact ⟨_, ho, fun v q => by rw [hd] at q; cases q⟩
  keep := fun i h h' st k => let ⟨⟨old, he⟩, hi, hne, hl⟩ := st; ⟨⟨old, k e (by simp) _ he⟩, by obtain ⟨o, ho, hc, hd⟩ := hi; exact ⟨o, k it (by simp) o ho, hc, hd⟩, hne, hl⟩
  item := by
    intro X hP hw hK hc i pins s σ H E I hf st hg
    subst hP hw hK
    obtain ⟨⟨old, he⟩, hit, hne, hl⟩ := st
    have D := Draws.text (prog := X.prog) (w := X.w) (A := X.A.in1) (I.ok.hd hc) it x t
    have hel : e < s.heap.objs.size := Heap.lt_size he
    have hil : it < s.heap.objs.size := by obtain ⟨_, q⟩ := D.live i s.heap hit; exact Heap.lt_size q
    refine wpAny_pyNext_enum_itemC D he hit hg hne (by simp [hne]) fun u h' tk hP ho hit' hT hsz hk => ?_
    obtain ⟨c, tu, hx, rfl⟩ := hP
    refine ⟨_, rfl, wpAny_letOwnedTupleGo_enum (s := { s with heap := h', toks := tk + 1 }) ho fun h'' he' sb => ?_⟩
    have hT2 : h''.get? s.heap.objs.size = some { cls := .type "tuple", data := .seq #[.int i tk, .str ⟨#[c]⟩ tu] } := (sb.2 _ (Nat.ne_of_gt hel)).trans hT
    have new : ObjOk X.prog X.w (upd H s.heap.objs.size (.tup [.int (i : Nat), .str ⟨#[c]⟩])) h'' s.heap.objs.size (.tup [.int (i : Nat), .str ⟨#[c]⟩]) :=
      ⟨by show 2 ≤ sizeLine; decide, [.int i tk, .str ⟨#[c]⟩ tu], .cons ⟨_, rfl⟩ (.cons ⟨_, rfl⟩ .nil), ⟨_, hT2, rfl, _, rfl⟩⟩
    have I1 : Inv X pins σ (upd H s.heap.objs.size (.tup [.int (i : Nat), .str ⟨#[c]⟩])) { s with heap := h'', toks := tk + 1 } :=
      I.turnedNew (ch := [e, it]) (fun b ob hb q => (sb.2 b (fun z => hb (by simp [z]))).trans (hk b ob (fun z => hb (by simp [z])) (fun z => hb (by simp [z])) q)) hf (Nat.le_refl _) new
    refine ⟨.ref s.heap.objs.size, _, I1, rfl, ⟨_, c, rfl, I.hok.fresh (Nat.le_refl _), rfl, hx⟩, ⟨⟨.str ⟨#[c]⟩ tu, ?_⟩, D.frame _ _ _ hit' (fun b hb o q => ?_), hne, hg⟩, fun b hb => ?_⟩
    · have e1 : ((i + 1 : Nat) : Int) = (i : Int) + 1 := by omega
      rw [e1]; exact he'
    · have eb : b = it := by simpa using hb
      rw [eb] at q ⊢
      exact (sb.2 it (Ne.symm hne)).trans q
    · have hb' : b < s.heap.objs.size := by
        have e' : b = e ∨ b = it := by simpa using hb
        rcases e' with z | z
        · rw [z]; exact hel
        · rw [z]; exact hil
      rw [upd_ne (Nat.ne_of_lt hb')]
      exact (hf b hb).1
  done := by
    intro X hP hw hK hc i pins s σ H E I hf st hg
    subst hP hw hK
    obtain ⟨⟨old, he⟩, hit, hne, hl⟩ := st
    have ei : i = x.cps.size := Nat.le_antisymm hl hg
    subst ei
    have D := Draws.text (prog := X.prog) (w := X.w) (A := X.A.in1) (I.ok.hd hc) it x t
    obtain ⟨f0, f1, f2, f3, f4, f5⟩ := hf it (by simp)
    exact wpAny_pyNext_enum_endD D he hit fun h' eb => ⟨rfl, I.turned (t' := s.toks) (fun b o hb q => eb b o hb q) f0 f1 f3 f4 f5⟩
  self := fun A i s Q E st h => let ⟨⟨_, he⟩, _⟩ := st; wpAny_pyIter_enum he h
def iEnumS (ta : TA) : TI := fun σ H R => ta σ H fun vs H1 => ∃ x, vs = [.str x] ∧ R (ItS x) H1
theorem pi_enumS {X : Cx} {e : Expr} {ta : TA} {p pos tpos : Pos} {elts : List Expr} {kk : Nat} (hg : Gl X "enumerate") (hm : X.mg "enumerate" = none) (ha : PA X [e] ta) (hs : starEach [e] X.env = [(false, eval e X.env)] := by rfl) :
    PI X (.Tuple elts kk tpos) (.Call (.Name "enumerate" p) [e] [] pos) (iEnumS ta) := by
  refine ⟨fun pins s σ H R I h => ?_⟩
  refine Call_ (ld_blt I hg hm boot_enumerate (PyProof.Rows.callWith_type1 (thn (ha.run pos pins s σ H _ I h) fun us s1 ⟨vs, H1, I1, r1, q1⟩ => ?_) hs rfl))
  obtain ⟨x, ex, q⟩ := q1
  subst ex
  cases r1 with
  | cons r rr =>
    cases rr
    obtain ⟨t, rfl⟩ := r
    refine call_enumerate_str fun h' he hit hsz hk => wpAny_pyIter_enum he ?_
    have I2 : Inv X pins σ H1 { s1 with heap := h' } := I1.kept (t' := s1.toks) hk
    refine ⟨s1.heap.objs.size + 1, [s1.heap.objs.size + 1, s1.heap.objs.size], _, _, H1, rfl, I2, turn_enumS x t (s1.heap.objs.size + 1) s1.heap.objs.size, ⟨⟨.none, he⟩, hit, Nat.succ_ne_self _, Nat.zero_le _⟩, fun b hb => ?_, q⟩
    have e' : b = s1.heap.objs.size + 1 ∨ b = s1.heap.objs.size := by simpa using hb
    have hle : s1.heap.objs.size ≤ b := by
      rcases e' with z | z
      · rw [z]; exact Nat.le_add_right _ _
      · rw [z]; exact Nat.le_refl _
    exact I1.fpOk hle (I1.hok.fresh hle)
/-- the walk of it -/
theorem walk_enumS {x : Str} : Walk (ItS x) x.cps.size (fun _ => True) (fun i H v H' => ∃ T c, v = .ref T ∧ H T = none ∧ H' = upd H T (.tup [.int (i : Nat), .str ⟨#[c]⟩]) ∧ x.cps[i]? = some c) :=
  ⟨fun _ _ hi _ => hi, fun _ _ => Nat.le_refl _, fun _ _ _ _ _ _ y => y⟩
end Fld
namespace Fld
open PySem PySem.Spec PyProof.Rows L2
/-! ### the characters -/
def charCodes : List Nat := [32, 45, 46, 47, 48, 49, 50, 51, 52, 53, 54, 55, 56, 57, 58, 59, 61, 97, 98, 99, 100, 101, 102, 103, 104, 105, 106, 107, 108, 109, 110, 111, 112, 113, 114, 115, 116, 117, 118, 119, 120, 121, 122]
def chars : List (Int × V) := charCodes.map fun (c : Nat) => (((c : Nat) : Int), V.str ⟨#[c]⟩)
/-! ### the heap but for one object -/
def Off (p : Addr) (H : Hp) : Hp := fun b => if b = p then none else H b
/-- all but p stands -/
def But (p : Addr) (H H' : Hp) : Prop := ∀ b o, b ≠ p → H b = some o → H' b = some o
theorem But.refl (p : Addr) (H : Hp) : But p H H := fun _ _ _ h => h
theorem But.trans {p : Addr} {H H1 H2 : Hp} (a : But p H H1) (b : But p H1 H2) : But p H H2 := fun c o n h => b c o n (a c o n h)
theorem But.of {p : Addr} {H H' : Hp} (s : Same H H') : But p H H' := fun c o _ h => s c o h
theorem But.set {p : Addr} {H : Hp} {o : HO} : But p H (upd H p o) := fun c u n h => by rw [upd_ne n]; exact h
theorem But.new {p q : Addr} {H : Hp} {o : HO} (h : H q = none) : But p H (upd H q o) := fun c u n e => by rw [upd_ne (ne_of_none e h)]; exact e
theorem _root_.L2.Same.new {q : Addr} {H : Hp} {o : HO} (h : H q = none) : Same H (upd H q o) := fun c u e => by rw [upd_ne (ne_of_none e h)]; exact e
theorem But.put {p q : Addr} {H H' : Hp} {o : HO} (b : But p H H') (h : H q = none) : But p H (upd H' q o) := fun u v n e => by rw [upd_ne (ne_of_none e h)]; exact b u v n e
/-- what is true of all values of the heap but p -/
theorem But.none {p q : Addr} {H H' : Hp} (b : But p H H') (n : q ≠ p) (h : H' q = Option.none) : H q = Option.none := by
  cases e : H q with
  | none => rfl
  | some o => rw [b q o n e] at h; cases h
/-! ### the pen: a list of cells, how many were taken, what is left of the last -/
structure Pen (H : Hp) (p c : Addr) (n : Nat) : Prop where
  ex : ∃ (at_ : Nat) (acc : Int) (ns : List Int), H p = some (.lst [.ref c, .int (at_ : Nat), .int acc]) ∧ H c = some (.lst (ns.map V.int)) ∧ c ≠ p ∧ ns.length ≤ 63 ∧ at_ ≤ n
theorem Pen.mono {H : Hp} {p c : Addr} {n m : Nat} (h : Pen H p c n) (l : n ≤ m) : Pen H p c m := by
  obtain ⟨a, acc, ns, h1, h2, h3, h4, h5⟩ := h.ex
  exact ⟨a, acc, ns, h1, h2, h3, h4, Nat.le_trans h5 l⟩
theorem Pen.keep {H H' : Hp} {p c : Addr} {n : Nat} (h : Pen H p c n) (k : Same H H') : Pen H' p c n := by
  obtain ⟨a, acc, ns, h1, h2, h3, h4, h5⟩ := h.ex
  exact ⟨a, acc, ns, k _ _ h1, k _ _ h2, h3, h4, h5⟩
theorem Pen.some {H : Hp} {p c : Addr} {n : Nat} (h : Pen H p c n) : (∃ xs, H p = some (.lst xs)) ∧ ∃ xs, H c = some (.lst xs) := by
  obtain ⟨a, acc, ns, h1, h2, h3, h4, h5⟩ := h.ex
  exact ⟨⟨_, h1⟩, ⟨_, h2⟩⟩
theorem Pen.ne {H : Hp} {p c q : Addr} {n : Nat} (h : Pen H p c n) (hq : H q = none) : p ≠ q := by
  obtain ⟨⟨xs, e⟩, _⟩ := h.some
  exact ne_of_none e hq
theorem Pen.nec {H : Hp} {p c q : Addr} {n : Nat} (h : Pen H p c n) (hq : H q = none) : c ≠ q := by
  obtain ⟨_, ⟨xs, e⟩⟩ := h.some
  exact ne_of_none e hq
theorem Pen.upd {H : Hp} {p c q : Addr} {n : Nat} {o : HO} (h : Pen H p c n) (h1 : p ≠ q) (h2 : c ≠ q) : Pen (upd H q o) p c n := by
  obtain ⟨a, acc, ns, e1, e2, e3, e4, e5⟩ := h.ex
  exact ⟨a, acc, ns, by rw [upd_ne h1]; exact e1, by rw [upd_ne h2]; exact e2, e3, e4, e5⟩
/-- a draw: the pen may turn, all else stands -/
structure Drew (p c : Addr) (H H' : Hp) (n : Nat) : Prop where
  pen : Pen H' p c n
  but : But p H H'
theorem Drew.trans {p c : Addr} {H H1 H2 : Hp} {n m : Nat} (a : Drew p c H H1 n) (b : Drew p c H1 H2 m) : Drew p c H H2 m := ⟨b.pen, a.but.trans b.but⟩
theorem Drew.keep {p c : Addr} {H H1 H2 : Hp} {n : Nat} (a : Drew p c H H1 n) (s : Same H1 H2) : Drew p c H H2 n := ⟨a.pen.keep s, a.but.trans (But.of s)⟩
theorem Drew.mono {p c : Addr} {H H1 : Hp} {n m : Nat} (a : Drew p c H H1 n) (l : n ≤ m) : Drew p c H H1 m := ⟨a.pen.mono l, a.but⟩
theorem Drew.pre {p c : Addr} {H H1 H2 : Hp} {n : Nat} (s : Same H H1) (a : Drew p c H1 H2 n) : Drew p c H H2 n := ⟨a.pen, (But.of s).trans a.but⟩
/-- law's: a list of at most 63 ints is handed in, True comes out -/
def spLaw (K : PySem.W.Frag) : Sp := fun vs H Q _ => ∃ (a : Addr) (ns : List Int), vs = [.ref a] ∧ SqL K H a (ns.map V.int) ∧ ns.length ≤ 63 ∧ ∀ H', Q (.bl true) H'
end Fld
namespace Fld
open PySem PySem.Spec PyProof.Rows L2
/-! ### what kind of value -/
inductive Kind (K : PySem.W.Frag) (H : Hp) : V → String → Prop where
  | non : Kind K H .non "NoneType"
  | bl (b : Bool) : Kind K H (.bl b) "bool"
  | int (i : Int) : Kind K H (.int i) "int"
  | str (x : Str) : Kind K H (.str x) "str"
  | flt (x : UInt64) : Kind K H (.flt x) "float"
  | lst {a : Addr} {xs : List V} (h : SqL K H a xs) : Kind K H (.ref a) "list"
  | tup {a : Addr} {xs : List V} (h : SqT K H a xs) : Kind K H (.ref a) "tuple"
  | dK {a : Addr} {kvs : List (Key × V)} (h : H a = some (.dK kvs)) : Kind K H (.ref a) "dict"
theorem tyL {K : PySem.W.Frag} {H : Hp} {a : Addr} {xs : List V} (h : SqL K H a xs) : TyX K H (.ref a) (.type "list") := by
  rcases h with (h | ⟨o, h⟩) | ⟨o, its, n, h1, h2, _⟩
  · exact .base (.lst h)
  · exact .base (.frz h)
  · exact .kList h1 h2
theorem tyT {K : PySem.W.Frag} {H : Hp} {a : Addr} {xs : List V} (h : SqT K H a xs) : TyX K H (.ref a) (.type "tuple") := by
  rcases h with (h | ⟨o, h⟩) | ⟨o, its, n, h1, h2, _⟩
  · exact .base (.tup h)
  · exact .fTuple h
  · exact .kTuple h1 h2
theorem Kind.ty {K : PySem.W.Frag} {H : Hp} {v : V} {t : String} (k : Kind K H v t) : TyX K H v (.type t) := by
  cases k with
  | non => exact .base .non
  | bl b => exact .base (.bl b)
  | int i => exact .base (.int i)
  | str x => exact .base (.str x)
  | flt x => exact .base (.flt x)
  | lst h => exact tyL h
  | tup h => exact tyT h
  | dK h => exact .base (.dK h)
def subT (a b : String) : Bool := a == b || (a == "bool" && b == "int")
def clsNames : List String := ["int", "bool", "str", "list", "tuple", "dict"]
theorem kitAll : (["NoneType", "bool", "int", "str", "float", "list", "tuple", "dict"].all fun a => clsNames.all fun b => kitB a b == some (subT a b)) = true := by decide +kernel
theorem Kind.mem {K : PySem.W.Frag} {H : Hp} {v : V} {t : String} (k : Kind K H v t) : t ∈ ["NoneType", "bool", "int", "str", "float", "list", "tuple", "dict"] := by
  cases k <;> decide
theorem Kind.kit {K : PySem.W.Frag} {H : Hp} {v : V} {t b : String} (k : Kind K H v t) (hb : clsNames.contains b = true := by decide) : PySem.W.kitOne K (.type t) (.type b) = some (subT t b) := by
  have h := List.all_eq_true.mp kitAll t k.mem
  have h2 := List.all_eq_true.mp h b (List.contains_iff_mem.mp hb)
  exact kit_ty (eq_of_beq h2)
theorem Kind.kit2 {K : PySem.W.Frag} {H : Hp} {v : V} {t b c : String} (k : Kind K H v t) (hb : clsNames.contains b = true := by decide) (hc : clsNames.contains c = true := by decide) :
    PySem.W.kitAny K (.type t) [.type b, .type c] = some (subT t b || subT t c) := by
  refine kitAny_cons (k.kit hb) (fun e => ?_) fun e => ?_
  · rw [e]
    refine kitAny_cons (k.kit hc) (fun e2 => ?_) fun e2 => ?_
    · rw [e2]; exact kitAny_nil
    · rw [e2]; rfl
  · rw [e]; rfl
theorem Kind.keep {K : PySem.W.Frag} {H H' : Hp} {v : V} {t : String} (k : Kind K H v t) (s : Same H H') : Kind K H' v t := by
  cases k with
  | non => exact .non
  | bl b => exact .bl b
  | int i => exact .int i
  | str x => exact .str x
  | flt x => exact .flt x
  | lst h => exact .lst (s.seq h)
  | @tup a xs h =>
    refine .tup (xs := xs) ?_
    rcases h with (h | ⟨o, h⟩) | h
    · exact .inl (.inl (s _ _ h))
    · exact .inl (.inr ⟨o, s _ _ h⟩)
    · exact .inr h
  | dK h => exact .dK (s _ _ h)
theorem ifb {c : Bool} {A B : Prop} (h1 : c = true → A) (h2 : c = false → B) : if c = true then A else B := by
  cases c
  · rw [if_neg (by decide)]; exact h2 rfl
  · rw [if_pos rfl]; exact h1 rfl
theorem Q_bl {Q : VK} {a b : Bool} {H : Hp} (h : Q (.bl a) H) (e : a = b) : Q (.bl b) H := e ▸ h
theorem Q_int {Q : VK} {a b : Int} {H : Hp} (h : Q (.int a) H) (e : a = b) : Q (.int b) H := e ▸ h
/-! ### is_between -/
def btw : V → Int → Int → Bool
  | .int i, a, b => decide (a ≤ i) && decide (i ≤ b)
  | _, _, _ => false
def sp_is_between (K : PySem.W.Frag) : Sp := fun vs H Q _ => ∃ (v : V) (t : String) (a b : Int), vs = [v, .int a, .int b] ∧ Kind K H v t ∧ Q (.bl (btw v a b)) H
end Fld
namespace Fld
open PySem PySem.Spec PyProof.Rows L2
/-! ### comprehensions -/
section
variable {J : It} {n : Nat} {G : Hp → Prop} {Y : Nat → Hp → V → Hp → Prop} {g : TG} {tt : TT} {te : TE} {vs : List Nat} {σ : L2.St} {H1 : Hp} {D : Addr} {Qd : Hp → Prop}
theorem yesI {σ : L2.St} {H : Hp} {A B : Hp → Prop} (h : A H) : tYes σ H (fun b H3 => if b = true then A H3 else B H3) := by
  show (if true = true then A H else B H)
  rw [if_pos rfl]; exact h
/-- by an invariant of the turn, the items so far, the heap -/
theorem lc_gen (w : Walk J n G Y) (I : Nat → List V → Hp → Prop) (hz : n ≤ 1000000) (h0 : I 0 [] (upd H1 D (.lst []))) (hG : ∀ i ys H, I i ys H → G H)
    (hs : ∀ i ys x H' H'' (Q' : VK) (Z : Hp → Prop), i < n → ys.length = i → H' D = some (.lst ys) → I i ys H' → Y i H' x H'' → (∀ y H4, H4 D = some (.lst ys) → I (i + 1) (ys ++ [y]) (upd H4 D (.lst (ys ++ [y]))) → Q' y H4) →
      g x (wipe σ vs) H'' fun σ2 H2 => wipe σ2 vs = wipe σ vs ∧ tYes σ2 H2 fun b H3 => if b = true then te σ2 H3 Q' else Z H3)
    (hd : ∀ ys H', ys.length = n → H' D = some (.lst ys) → I n ys H' → Qd H') :
    ∃ W : Nat → Nat → Hp → Prop, (∃ m, W 0 m (upd H1 D (.lst []))) ∧ ∀ i m H, W i m H →
      (J.stop i H ∧ Qd H) ∨ (J.go i H ∧ ∃ Nx : Hp → Prop, (∀ H', Nx H' → ∃ m', m' < m ∧ W (i + 1) m' H') ∧ ∀ x H', J.yld i H x H' → g x (wipe σ vs) H' fun σ2 H2 => wipe σ2 vs = wipe σ vs ∧ tYes σ2 H2 fun b H3 =>
        if b = true then te σ2 H3 fun y H4 => ∃ acc, H4 D = some (.lst acc) ∧ acc.length < sizeLine ∧ Nx (upd H4 D (.lst (acc ++ [y]))) else Nx H3) := by
  refine lc_it w (fun i H => ∃ ys : List V, ys.length = i ∧ H D = some (.lst ys) ∧ I i ys H) ⟨[], rfl, upd_same, h0⟩ (fun i H _ ⟨ys, _, _, h⟩ => hG i ys H h) ?_ ?_
  · rintro i x H H' hi ⟨ys, hl, hD, h⟩ y
    refine hs i ys x H H' _ _ hi hl hD h y fun z H4 e4 h4 => ?_
    refine ⟨ys, e4, ?_, ys ++ [z], by simp [hl], upd_same, h4⟩
    rw [sizeLine_eq]
    omega
  · rintro H ⟨ys, hl, hD, h⟩
    exact hd ys H hl hD h
/-- each item its value, all that stood stands -/
theorem lc_map (w : Walk J n G Y) (f : Nat → V) (hz : n ≤ 1000000) (hD : H1 D = none) (hG : ∀ H, Same H1 H → G H)
    (hs : ∀ i x H' H'' (Q' : VK) (Z : Hp → Prop), i < n → Same H1 H' → Y i H' x H'' → (∀ H4, Same H' H4 → Q' (f i) H4) →
      g x (wipe σ vs) H'' fun σ2 H2 => wipe σ2 vs = wipe σ vs ∧ tYes σ2 H2 fun b H3 => if b = true then te σ2 H3 Q' else Z H3)
    (hd : ∀ H', Same H1 H' → H' D = some (.lst ((List.range n).map f)) → Qd H') :
    ∃ W : Nat → Nat → Hp → Prop, (∃ m, W 0 m (upd H1 D (.lst []))) ∧ ∀ i m H, W i m H →
      (J.stop i H ∧ Qd H) ∨ (J.go i H ∧ ∃ Nx : Hp → Prop, (∀ H', Nx H' → ∃ m', m' < m ∧ W (i + 1) m' H') ∧ ∀ x H', J.yld i H x H' → g x (wipe σ vs) H' fun σ2 H2 => wipe σ2 vs = wipe σ vs ∧ tYes σ2 H2 fun b H3 =>
        if b = true then te σ2 H3 fun y H4 => ∃ acc, H4 D = some (.lst acc) ∧ acc.length < sizeLine ∧ Nx (upd H4 D (.lst (acc ++ [y]))) else Nx H3) := by
  have up : ∀ H o, Same H1 H → Same H1 (upd H D o) := fun H o s b u e => by rw [upd_ne (ne_of_none e hD)]; exact s b u e
  refine lc_gen w (fun i ys H => Same H1 H ∧ ys = (List.range i).map f) hz ⟨up _ _ (Same.refl _), rfl⟩ (fun i ys H h => hG H h.1) ?_ ?_
  · rintro i ys x H H' Q' Z hi hl hDl ⟨s, rfl⟩ y q
    refine hs i x H H' Q' Z hi s y fun H4 s4 => q (f i) H4 (s4 D _ hDl) ⟨up _ _ (s.trans s4), ?_⟩
    rw [List.range_succ, List.map_append]
    rfl
  · rintro ys H hl hDl ⟨s, rfl⟩
    exact hd H s hDl
end
/-- the items of a list by their places -/
theorem range_map {α β : Type} (l : List α) (f : α → β) (d : α) : (List.range l.length).map (fun i => f (l.getD i d)) = l.map f := by
  apply List.ext_getElem?
  intro i
  by_cases h : i < l.length
  · simp [h]
  · have h2 : l.length ≤ i := Nat.not_lt.mp h
    simp [h2]
theorem getD_of {α : Type} {l : List α} {i : Nat} {c : α} (d : α) (h : l[i]? = some c) : l.getD i d = c := by
  rw [List.getD_eq_getElem?_getD, h]; rfl
theorem cps_at {x : Str} {i c : Nat} (h : x.cps[i]? = some c) : x.cps.toList[i]? = some c := by
  rw [Array.getElem?_toList]; exact h
/-! ### texts and numbers -/
def isChar (c : Nat) : Bool := charCodes.contains c
theorem valI_chars (c : Nat) : (valI chars (c : Int)) = if isChar c then some (.str ⟨#[c]⟩) else none := by
  unfold valI chars isChar
  have h : ∀ l : List Nat, ((l.map fun (c : Nat) => (((c : Nat) : Int), V.str ⟨#[c]⟩)).find? fun p => p.1 == (c : Int)).map (·.2) = if l.contains c then some (V.str ⟨#[c]⟩) else none := by
    intro l
    induction l with
    | nil => rfl
    | cons a r ih =>
      rw [List.map_cons, List.find?_cons, List.contains_cons]
      by_cases e : a = c
      · subst e; simp
      · have e1 : (((a : Nat) : Int) == (c : Int)) = false := by
          rw [beq_eq_false_iff_ne]; intro q; exact e (by omega)
        have e2 : (c == a) = false := by rw [beq_eq_false_iff_ne]; exact fun q => e q.symm
        simp only [e1, e2, Bool.false_or]
        exact ih
  exact h charCodes
def txt : V → Int → Int → Bool
  | .str x, a, b => decide (a ≤ (x.length : Int)) && decide ((x.length : Int) ≤ b) && x.cps.toList.all isChar
  | _, _, _ => false
def sp_is_text (K : PySem.W.Frag) : Sp := fun vs H Q _ => ∃ (v : V) (t : String) (a b : Int), vs = [v, .int a, .int b] ∧ Kind K H v t ∧ (∀ x, v = .str x → x.length ≤ 100000) ∧ ∀ H', Same H H' → Q (.bl (txt v a b)) H'
def sp_is_value (K : PySem.W.Frag) : Sp := fun vs H Q _ => ∃ (v : V) (t : String), vs = [v] ∧ Kind K H v t ∧ (∀ x, v = .str x → x.length ≤ 100000) ∧ ∀ H', Same H H' → Q (.bl (txt v 0 40)) H'
def sp_is_number (K : PySem.W.Frag) : Sp := fun vs H Q _ => ∃ (v : V) (t : String), vs = [v] ∧ Kind K H v t ∧ Q (.bl (btw v 0 9999)) H
def sp_prefix_bits : Sp := fun vs H Q _ => ∃ (b : Nat), vs = [.int (b : Nat)] ∧ b ≤ 64 ∧ Q (.int (2 ^ b - 1)) H
theorem len100 {n : Nat} (h : n ≤ 100000) : n ≤ sizeLine := by rw [sizeLine_eq]; omega
theorem str_len (x : Str) : x.length = x.cps.toList.length := rfl
end Fld
namespace Fld
open PySem PySem.Spec PyProof.Rows L2
theorem ifF {c : Bool} {A B : Prop} (h : c = false) (b : B) : if c = true then A else B := by
  rw [h, if_neg (by decide)]; exact b
theorem ifT {c : Bool} {A B : Prop} (h : c = true) (a : A) : if c = true then A else B := by
  rw [h, if_pos rfl]; exact a
theorem _root_.L2.Same.at {H H' : Hp} {p : Addr} {o : HO} (hp : H p = none) : Same H (upd H p o) := Same.new hp
theorem _root_.L2.Same.put {H H' : Hp} {p : Addr} {o : HO} (s : Same H H') (hp : H p = none) : Same H (upd H' p o) := fun b u e => by rw [upd_ne (ne_of_none e hp)]; exact s b u e
theorem _root_.L2.Same.tup {K : PySem.W.Frag} {H H' : Hp} {a : Addr} {xs : List V} (s : Same H H') (h : SqT K H a xs) : SqT K H' a xs := by
  rcases h with (h | ⟨o, h⟩) | h
  · exact .inl (.inl (s _ _ h))
  · exact .inl (.inr ⟨o, s _ _ h⟩)
  · exact .inr h
theorem btw_t {n a b : Int} (h1 : a ≤ n) (h2 : n ≤ b) : btw (.int n) a b = true := by
  show (decide (a ≤ n) && decide (n ≤ b)) = true
  rw [decide_eq_true h1, decide_eq_true h2]; rfl
/-! ### the octets of a number -/
def restOct (r : Nat) : List Int := if r < 128 then [(r : Int)] else (128 + (r : Int) % 128) :: restOct (r / 128)
termination_by r
theorem restOct_lt {r : Nat} (h : r < 128) : restOct r = [(r : Int)] := by rw [restOct, if_pos h]
theorem restOct_ge {r : Nat} (h : ¬ r < 128) : restOct r = (128 + (r : Int) % 128) :: restOct (r / 128) := by rw [restOct, if_neg h]
theorem restOct_len (r : Nat) : (restOct r).length ≤ r + 1 := by
  induction r using Nat.strongRecOn with
  | _ r ih =>
    by_cases h : r < 128
    · rw [restOct_lt h]; simp
    · rw [restOct_ge h, List.length_cons]
      have := ih (r / 128) (by omega)
      omega
def numOct (n b m : Nat) : List Int := if n < 2 ^ b - 1 then [((m + n : Nat) : Int)] else ((m + (2 ^ b - 1) : Nat) : Int) :: restOct (n - (2 ^ b - 1))
theorem numOct_len (n b m : Nat) : (numOct n b m).length ≤ n + 2 := by
  unfold numOct
  split
  · simp
  · have := restOct_len (n - (2 ^ b - 1))
    rw [List.length_cons]
    omega
theorem pow_pos2 (b : Nat) : 0 < 2 ^ b := Nat.pow_pos (by decide)
theorem bits_cast (b : Nat) : ((2 : Int) ^ b - 1) = ((2 ^ b - 1 : Nat) : Int) := by
  have h := pow_pos2 b
  have e : ((2 : Int) ^ b) = ((2 ^ b : Nat) : Int) := by norm_cast
  rw [e]
  omega
theorem pow_le8 {b : Nat} (h : b ≤ 8) : 2 ^ b ≤ 256 := Nat.le_trans (Nat.pow_le_pow_right (by decide) h) (by decide)
/-- a mark that leaves the prefix alone -/
def MarkOk (b m : Nat) : Prop := 1 ≤ b ∧ b ≤ 8 ∧ m ≤ 255 ∧ Builtin.bitAnd (m : Int) (((2 ^ b - 1 : Nat)) : Int) = 0
theorem and127 {r : Int} (h : 0 ≤ r) : Builtin.bitAnd r 127 = r % 128 := Bits.bitAnd_mask 7 h
/-- a new list of ints is handed back -/
def RetInts (ns : List Int) (H : Hp) (Q : VK) : Prop := ∀ p H', H p = none → Same H H' → H' p = some (.lst (ns.map V.int)) → Q (.ref p) H'
def sp_check_prefix : Sp := fun vs H Q _ => ∃ b m : Nat, vs = [.int (b : Nat), .int (m : Nat)] ∧ MarkOk b m ∧ Q .non H
def sp_number_octets : Sp := fun vs H Q _ => ∃ n b m : Nat, vs = [.int (n : Nat), .int (b : Nat), .int (m : Nat)] ∧ n ≤ 9999 ∧ MarkOk b m ∧ RetInts (numOct n b m) H Q
def sp_string_octets : Sp := fun vs H Q _ => ∃ (x : Str) (b m : Nat), vs = [.str x, .int (b : Nat), .int (m : Nat)] ∧ txt (.str x) 0 40 = true ∧ MarkOk b m ∧ RetInts (numOct x.length b m ++ x.cps.toList.map fun (c : Nat) => (c : Int)) H Q
def sp_law_number_octets : Sp := fun vs H Q _ => ∃ n b m : Nat, vs = [.int (n : Nat), .int (b : Nat), .int (m : Nat)] ∧ n ≤ 9999 ∧ b ≤ 8 ∧ RetInts (numOct n b m) H Q
def codeOf (c : Nat) : Int := if isChar c then (c : Int) else 0
def sp_law_code : Sp := fun vs H Q _ => ∃ c : Nat, vs = [.str ⟨#[c]⟩] ∧ ∀ H', Same H H' → Q (.int (codeOf c)) H'
def sp_law_text_octets : Sp := fun vs H Q _ => ∃ (x : Str) (b m : Nat), vs = [.str x, .int (b : Nat), .int (m : Nat)] ∧ x.length ≤ 9999 ∧ b ≤ 8 ∧ RetInts (numOct x.length b m ++ x.cps.toList.map codeOf) H Q
theorem txt_len {x : Str} (h : txt (.str x) 0 40 = true) : x.length ≤ 40 := by
  have h' : (decide ((0 : Int) ≤ (x.length : Int)) && decide ((x.length : Int) ≤ 40) && x.cps.toList.all isChar) = true := h
  simp only [Bool.and_eq_true, decide_eq_true_eq] at h'
  omega
theorem txt_all {x : Str} {a b : Int} (h : txt (.str x) a b = true) : x.cps.toList.all isChar = true := by
  have h' : (decide (a ≤ (x.length : Int)) && decide ((x.length : Int) ≤ b) && x.cps.toList.all isChar) = true := h
  rw [Bool.and_eq_true] at h'
  exact h'.2
def codeRows : List (List Nat) := [(" " : Str).cps.toList, ("-./0123456789:;" : Str).cps.toList, ("=" : Str).cps.toList, ("abcdefghijklmnopqrstuvwxyz" : Str).cps.toList]
theorem codeRows_all : codeRows.flatten = charCodes := by decide +kernel
theorem code_yes {c : Nat} (i : Nat) {r : List Nat} (h : codeRows[i]? = some r) (hm : c ∈ r) : isChar c = true := by
  unfold isChar
  rw [← codeRows_all]
  exact List.contains_iff_mem.mpr (List.mem_flatten.mpr ⟨r, List.mem_of_getElem? h, hm⟩)
theorem code_no {c : Nat} (i : Nat) {r : List Nat} (h : codeRows[i]? = some r) (hc : c ∉ (codeRows.take i).flatten) (hm : c ∉ r) : c ∉ (codeRows.take (i + 1)).flatten := by
  rw [List.take_add_one, h, List.flatten_append]
  intro z
  rcases List.mem_append.mp z with z | z
  · exact hc z
  · exact hm (by simpa using z)
theorem code_none {c : Nat} (hc : c ∉ (codeRows.take 4).flatten) : isChar c = false := by
  unfold isChar
  rw [← codeRows_all]
  have e : codeRows.take 4 = codeRows := rfl
  rw [e] at hc
  cases h : codeRows.flatten.contains c
  · rfl
  · exact absurd (List.contains_iff_mem.mp h) hc
theorem row_ok {x : Str} {first : Nat} (h : ((List.range x.cps.size).all fun i => x.cps.toList.getD i 0 == first + i) = true) : ∀ i r, x.cps[i]? = some r → r = first + i := by
  intro i r hr
  have hi : i < x.cps.size := (Array.getElem?_eq_some_iff.mp hr).1
  have e := eq_of_beq (List.all_eq_true.mp h i (List.mem_range.mpr hi))
  rw [getD_of 0 (cps_at hr)] at e
  exact e
theorem codes_chars {x : Str} (h : x.cps.toList.all isChar = true) : x.cps.toList.map codeOf = x.cps.toList.map fun (c : Nat) => (c : Int) := by
  apply List.map_congr_left
  intro c hc
  have := List.all_eq_true.mp h c hc
  unfold codeOf
  rw [if_pos this]
end Fld
namespace Fld
open PySem PySem.Spec PyProof.Rows L2
theorem at_ofN {α : Type} {xs : List α} {z : Int} {j : Nat} {v : α} (e : z = (j : Int)) (h : xs[j]? = some v) : atI xs z = some v := by
  rw [e]; exact atI_nat h
/-! ### slices by places -/
theorem cut_to (xs : List V) (k : Nat) : cutV xs none (some (k : Int)) = xs.take k := by
  unfold cutV
  rw [HT.sIx_none, HT.sIx_nat, List.drop_zero, Nat.sub_zero]
  by_cases h : k ≤ xs.length
  · rw [Nat.min_eq_left h]
  · rw [Nat.min_eq_right (by omega), List.take_of_length_le (Nat.le_refl _), List.take_of_length_le (by omega)]
theorem cut_mid (xs : List V) (a b : Nat) : cutV xs (some (a : Int)) (some (b : Int)) = (xs.drop a).take (b - a) := by
  unfold cutV
  rw [HT.sIx_nat, HT.sIx_nat]
  by_cases h : a ≤ xs.length
  · have e1 : min a xs.length = a := by omega
    rw [e1]
    by_cases h2 : b ≤ xs.length
    · have e2 : min b xs.length = b := by omega
      rw [e2]
    · rw [List.take_of_length_le (by rw [List.length_drop]; omega), List.take_of_length_le (by rw [List.length_drop]; omega)]
  · have e1 : min a xs.length = xs.length := by omega
    rw [e1, List.drop_eq_nil_of_le (Nat.le_refl _), List.drop_eq_nil_of_le (by omega), List.take_nil, List.take_nil]
theorem cut_from (xs : List V) (a : Nat) : cutV xs (some (a : Int)) none = xs.drop a := by
  unfold cutV
  rw [HT.sIx_nat, HT.sIx_none]
  by_cases h : a ≤ xs.length
  · rw [Nat.min_eq_left h, List.take_of_length_le (by rw [List.length_drop]; omega)]
  · rw [Nat.min_eq_right (by omega), List.drop_eq_nil_of_le (Nat.le_refl _), List.drop_eq_nil_of_le (by omega), List.take_nil]
/-! ### the spread -/
def primes : List Int := [2147483629, 2147483587, 2147483579, 2147483563, 2147483549, 2147483543, 2147483497, 2147483489, 2147483477, 2147483423, 2147483399, 2147483353, 2147483323]
theorem primes_at {k : Int} (h0 : 0 ≤ k) (h : k < 13) : ∃ r : Int, atI (primes.map V.int) k = some (.int r) ∧ 0 < r ∧ r < 2147483648 := by
  have hk : k.toNat < 13 := by omega
  have ek : k = ((k.toNat : Nat) : Int) := by omega
  have hall : ((List.range 13).all fun i => (primes[i]?).any fun r => decide (0 < r) && decide (r < 2147483648)) = true := by decide
  have h1 := List.all_eq_true.mp hall k.toNat (List.mem_range.mpr hk)
  cases e : primes[k.toNat]? with
  | none => rw [e] at h1; cases h1
  | some r =>
    rw [e] at h1
    have h2 : (decide (0 < r) && decide (r < 2147483648)) = true := h1
    rw [Bool.and_eq_true, decide_eq_true_eq, decide_eq_true_eq] at h2
    refine ⟨r, ?_, h2.1, h2.2⟩
    rw [ek]
    exact atI_nat (by rw [List.getElem?_map, e]; rfl)
theorem pow_small {i : Int} (h0 : 0 ≤ i) (h : i < 10 ^ 18) : i.natAbs < 2 ^ 64 := by
  have : (10 : Int) ^ 18 < 2 ^ 63 := by decide
  have e : (2 : Nat) ^ 64 = 18446744073709551616 := by decide
  have e2 : (10 : Int) ^ 18 = 1000000000000000000 := by decide
  omega
theorem mul_bd {a b A B : Int} (h1 : 0 ≤ a) (h2 : a ≤ A) (h3 : 0 ≤ b) (h4 : b ≤ B) : 0 ≤ a * b ∧ a * b ≤ A * B :=
  ⟨Int.mul_nonneg h1 h3, Int.mul_le_mul h2 h4 h3 (Int.le_trans h1 h2)⟩
theorem mul64 {a b : Int} (h1 : 0 ≤ a) (h2 : a < 10 ^ 18) : CMul a b := by
  have e : (2 : Int) ^ 64 = 18446744073709551616 := by decide
  have e2 : (10 : Int) ^ 18 = 1000000000000000000 := by decide
  refine .inl ⟨?_, ?_⟩ <;> omega
def sp_law_spread : Sp := fun vs H Q _ => ∃ (cell : Int) (a : Nat), vs = [.int cell, .int (a : Nat)] ∧ a ≤ 1000000 ∧ ∀ (r : Int) H', Same H H' → Q (.int r) H'
def sp_law_open (K : PySem.W.Frag) : Sp := fun vs H Q _ => ∃ (a : Addr) (ns : List Int), vs = [.ref a] ∧ SqL K H a (ns.map V.int) ∧ ns.length ≤ 63 ∧ ∀ p c H', H p = none → Same H H' → Pen H' p c 0 → Q (.ref p) H'
def sp_law_take : Sp := fun vs H Q _ => ∃ (p c : Addr) (n : Nat) (k : Int), vs = [.ref p, .int k] ∧ Pen H p c n ∧ 0 < k ∧ k < 1073741824 ∧ n ≤ 900000 ∧ ∀ (r : Int) H', 0 ≤ r → r < k → Drew p c H H' (n + 1) → Q (.int r) H'
/-- one of a list's items, whatever they are -/
def sp_law_one_of (K : PySem.W.Frag) : Sp := fun vs H Q _ => ∃ (p c a : Addr) (n : Nat) (xs : List V), vs = [.ref p, .ref a] ∧ Pen H p c n ∧ SqL K H a xs ∧ a ≠ p ∧ xs ≠ [] ∧ xs.length ≤ 1000 ∧ n ≤ 900000 ∧ ∀ (x : V) H', x ∈ xs → Drew p c H H' (n + 1) → Q x H'
def signs : Str := " -./0123456789:;=abcdefghijklmnopqrstuvwxyz"
def sp_law_signs : Sp := fun vs H Q _ => vs = [] ∧ Q (.str signs) H
theorem signs_cps : signs.cps.toList = charCodes := by decide +kernel
theorem But.seq {K : PySem.W.Frag} {p : Addr} {H H' : Hp} {a : Addr} {xs : List V} (b : But p H H') (n : a ≠ p) (h : SqL K H a xs) : SqL K H' a xs := by
  rcases h with (h | ⟨o, h⟩) | h
  · exact .inl (.inl (b _ _ n h))
  · exact .inl (.inr ⟨o, b _ _ n h⟩)
  · exact .inr h
end Fld
namespace Fld
open PySem PySem.Spec PyProof.Rows L2
def sp_law_draw_text : Sp := fun vs H Q _ => ∃ (p c : Addr) (n a b : Nat), vs = [.ref p, .int (a : Nat), .int (b : Nat)] ∧ Pen H p c n ∧ n ≤ 800000 ∧ a ≤ 1 ∧ a ≤ b ∧ b ≤ 40 ∧ ∀ (x : Str) H', txt (.str x) a b = true → Drew p c H H' (n + 50) → Q (.str x) H'
def sp_law_draw_number : Sp := fun vs H Q _ => ∃ (p c : Addr) (n : Nat), vs = [.ref p] ∧ Pen H p c n ∧ n ≤ 800000 ∧ ∀ (z : Nat) H', z ≤ 9999 → Drew p c H H' (n + 10) → Q (.int (z : Nat)) H'
theorem txt_of {x : Str} {a b : Int} (h1 : a ≤ (x.length : Int)) (h2 : (x.length : Int) ≤ b) (h3 : x.cps.toList.all isChar = true) : txt (.str x) a b = true := by
  show (decide (a ≤ (x.length : Int)) && decide ((x.length : Int) ≤ b) && x.cps.toList.all isChar) = true
  rw [decide_eq_true h1, decide_eq_true h2, h3]; rfl
/-- a text of one sign after another -/
theorem join_signs (cs : List Nat) : Txt.join ⟨#[]⟩ (cs.map fun c => (⟨#[c]⟩ : Str)) = ⟨cs.toArray⟩ := by
  rw [TL.join_eq]
  apply TL.ext_tl
  rw [TL.tl_join]
  have h : ∀ l : List Nat, TL.joinL (TL.tl (⟨#[]⟩ : Str)) ((l.map fun c => (⟨#[c]⟩ : Str)).map TL.tl) = l := by
    intro l
    induction l with
    | nil => rfl
    | cons a r ih =>
      cases r with
      | nil => rfl
      | cons b r' =>
        show [a] ++ ([] ++ TL.joinL [] _) = a :: b :: r'
        exact congrArg (a :: ·) ih
  rw [h]
/-- the first signs of a word repeated -/
theorem rep_all {z : Str} {n : Nat} (h : z.cps.toList.all isChar = true) : (repS z n).cps.toList.all isChar = true := by
  rw [repS_tl]
  rw [List.all_eq_true]
  intro c hc
  obtain ⟨l, hl, hcl⟩ := List.mem_flatten.mp hc
  rw [List.mem_replicate] at hl
  rw [hl.2] at hcl
  exact List.all_eq_true.mp h c hcl
theorem rep_len (z : Str) (n : Nat) : (repS z n).length = n * z.length := by
  show (List.replicate n z.cps.toList).flatten.toArray.size = _
  simp
  rfl
theorem cutS_to (x : Str) (k : Nat) : (cutS x none (some (k : Int))).cps.toList = x.cps.toList.take k := by
  unfold cutS
  show (x.cps.toList.drop _).take _ = _
  rw [HT.sIx_none, HT.sIx_nat, List.drop_zero, Nat.sub_zero]
  have e : x.length = x.cps.toList.length := rfl
  rw [e]
  by_cases h : k ≤ x.cps.toList.length
  · rw [Nat.min_eq_left h]
  · rw [Nat.min_eq_right (by omega), List.take_of_length_le (Nat.le_refl _), List.take_of_length_le (by omega)]
theorem txt_cut {x : Str} {a b k : Nat} (h1 : 9 ≤ x.length) (h2 : a ≤ 1 ∧ a ≤ k ∧ k ≤ b) (h3 : x.cps.toList.all isChar = true) : txt (.str (cutS x none (some (k : Int)))) a b = true := by
  have e : (cutS x none (some (k : Int))).cps.toList = x.cps.toList.take k := cutS_to x k
  have hl : (cutS x none (some (k : Int))).length = min k x.length := by
    show (cutS x none (some (k : Int))).cps.size = _
    rw [← Array.length_toList, e, List.length_take]
    rfl
  refine txt_of (by omega) (by omega) ?_
  rw [e, List.all_eq_true]
  intro c hc
  exact List.all_eq_true.mp h3 c (List.mem_of_mem_take hc)
def textWords : List Str := ["path", "accept-encoding", "a", ":method", "x=1; y=2"]
theorem words_ok : (textWords.all fun z => z.cps.toList.all isChar && decide (0 < z.length) && decide (z.length ≤ 15)) = true := by decide +kernel
/-! ### data of a bounded depth -/
def DLe : Nat → PyData → Prop
  | _, .none => True
  | _, .bool _ => True
  | _, .int _ => True
  | _, .str _ => True
  | 0, .list _ => False
  | 0, .tuple _ => False
  | n + 1, .list ds => ds.length ≤ 100000 ∧ ∀ d ∈ ds, DLe n d
  | n + 1, .tuple ds => ds.length ≤ 100000 ∧ ∀ d ∈ ds, DLe n d
  | _, _ => False
theorem dpAll_len {K : PySem.W.Frag} {H : Hp} : ∀ {xs : List V} {ds : List PyData}, DpAll K H xs ds → xs.length = ds.length
  | _, _, .nil => rfl
  | _, _, .cons _ t => by rw [List.length_cons, List.length_cons, dpAll_len t]
theorem dpAll_at {K : PySem.W.Frag} {H : Hp} : ∀ {xs : List V} {ds : List PyData} {i : Nat} {x : V}, DpAll K H xs ds → xs[i]? = some x → ∃ d, ds[i]? = some d ∧ Dp K H x d
  | _, _, _, _, .nil, e => by simp at e
  | _, _, 0, _, .cons h _, e => by simp at e; subst e; exact ⟨_, rfl, h⟩
  | _, _, i + 1, x, .cons _ t, e => by
    obtain ⟨d, h1, h2⟩ := dpAll_at (i := i) (x := x) t (by simpa using e)
    exact ⟨d, by simpa using h1, h2⟩
mutual
theorem dp_keep {K : PySem.W.Frag} {H H' : Hp} (s : Same H H') : ∀ {v : V} {d : PyData}, Dp K H v d → Dp K H' v d
  | _, _, .non => .non
  | _, _, .bl b => .bl b
  | _, _, .int i => .int i
  | _, _, .str x => .str x
  | _, _, .lst h a => .lst (s.seq h) (dpAll_keep s a)
  | _, _, .tup h a => .tup (s.tup h) (dpAll_keep s a)
theorem dpAll_keep {K : PySem.W.Frag} {H H' : Hp} (s : Same H H') : ∀ {vs : List V} {ds : List PyData}, DpAll K H vs ds → DpAll K H' vs ds
  | _, _, .nil => .nil
  | _, _, .cons h t => .cons (dp_keep s h) (dpAll_keep s t)
end
/-- _law_same on two values of the same data -/
def sp_law_same (K : PySem.W.Frag) (n : Nat) : Sp := fun vs H Q _ => ∃ (v u : V) (d : PyData), vs = [v, u] ∧ Dp K H v d ∧ Dp K H u d ∧ DLe n d ∧ ∀ H', Same H H' → Q (.bl true) H'
def sp_same_sub (K : PySem.W.Frag) : Nat → Sp
  | 0 => fun _ _ _ _ => False
  | m + 1 => sp_law_same K m
theorem walk_zipT {K : PySem.W.Frag} {a b : Addr} {xs ys : List V} {n : Nat} (hn : n = min xs.length ys.length) : Walk (RZ.ItzT K a b) n (fun H => SqT K H a xs ∧ SqT K H b ys) (YPair (fun i => xs[i]?) (fun i => ys[i]?)) := by
  subst hn
  refine ⟨fun i _ hi q => ?_, fun _ q => ⟨xs, ys, q.1, q.2, by omega⟩, fun i H v H' _ q y => ?_⟩
  · have h1 : i < xs.length := by omega
    have h2 : i < ys.length := by omega
    exact ⟨xs, ys, xs[i], ys[i], q.1, q.2, by simp [h1], by simp [h2]⟩
  · obtain ⟨T, x, z, h1, h2, h3, h4, h5⟩ := y
    exact ⟨T, x, z, h1, h2, h3, h4 xs q.1, h5 ys q.2⟩
theorem flat_trues (n : Nat) : ((List.range n).map fun _ => V.bl true).all flatV = true := by
  rw [List.all_map]; exact List.all_eq_true.mpr fun _ _ => rfl
theorem in_trues (n : Nat) : inV (.bl false) ((List.range n).map fun _ => V.bl true) = false := by
  unfold inV
  rw [List.any_map, List.any_eq_false]
  intro i _
  show ¬ (eqV (.bl true) (.bl false)) = true
  decide
/-- ints as data -/
theorem dp_ints {K : PySem.W.Frag} {H : Hp} : ∀ ns : List Int, DpAll K H (ns.map V.int) (ns.map PyData.int)
  | [] => .nil
  | n :: r => .cons (.int n) (dp_ints r)
theorem dp_lst {K : PySem.W.Frag} {H : Hp} {a : Addr} {ns : List Int} (h : H a = some (.lst (ns.map V.int))) : Dp K H (.ref a) (.list (ns.map PyData.int)) := .lst (SqL.of h) (dp_ints ns)
theorem dle_ints {ns : List Int} (h : ns.length ≤ 100000) (n : Nat) : DLe (n + 1) (.list (ns.map PyData.int)) := by
  refine ⟨by rw [List.length_map]; exact h, fun d hd => ?_⟩
  obtain ⟨i, _, rfl⟩ := List.mem_map.mp hd
  cases n <;> exact True.intro
end Fld
/-! The law's own def where what runs around it is known: no repr, no == is under way (Around.guards), so that repr of data may be walked in it. -/
namespace Fld
open PySem PySem.Spec PyProof.Rows L2
/-- a def as it is called from outside -/
structure TopOk (P : Program) (w : World) (K : PySem.W.Frag) (mg : Str → Option Value) (k : Nat) (f : Addr) (fd : FuncData) (ps : List Str) (sp : Sp) : Prop where
  len : ∀ vs H Q E, sp vs H Q E → vs.length = ps.length
  run : ∀ (base : Heap) (s : Shared) (H : Hp) (args : Args) (us : List Value) (vs : List V) (Q : VK) (E : XK), Room k callerA → Env0 P w K mg base callerA [] s H → BindsTo s fd args (ps.zip us) → Vals vs us → sp vs H Q E →
    codeAny (model P w) callerA (.call (.ref f) args) (CR CX0 [] P w H s Q E) s
/-- its body as a term of rules and the term's reading, the guards told -/
theorem top_of {P : Program} {w : World} {K : PySem.W.Frag} {mg : Str → Option Value} {x qual : Str} {st : Stmt} {f : Addr} {fd : FuncData} {N ps : List Str} {k : Nat} {sp : Sp} (F : Fun K x qual st f fd) (S : FnScope N ps (defScope st))
    (len : ∀ vs H Q E, sp vs H Q E → vs.length = ps.length)
    (hbody : ∀ (base : Heap) (cdv : Value) (A : Around) (outer : List Env) (s : Shared) (H : Hp) (vs : List V) (Q : VK) (E : XK), A.guards = some [] → Room k (A.deeper (envOfC qual (defScope st) s.heap.objs.size f cdv)) → sp vs H Q E →
      ∃ t, PSs (cxOf CX0 P w K mg base N qual (defScope st) f cdv A outer s H E).nox (defBody st) t ∧ t { nx := fun _ H' => Q .non H', rt := Q } (start N vs) H) :
    TopOk P w K mg (k + 1) f fd ps sp := by
  obtain ⟨oc, od, kV, doc, pm, an, cdv, ct, osl, rfl, lk, hcd⟩ := F.ex
  refine ⟨len, ?_⟩
  intro base s H args us vs Q E hr e0 hb r hsp
  have old := fun b o (e : base.get? b = some o) => (e0.bs b o e).1
  have KX : K.In s.heap := e0.mod.kin.keeps old
  have kinds : ∀ y ∈ ps.zip us, (defScope st).names.lookup y.1 = some .local ∨ ((defScope st).names.lookup y.1 = some .cell ∧ ((cellsFrom (s.heap.objs.size + 1) (defScope st).names []).lookup y.1).isSome = true) := by
    rintro ⟨n, v⟩ hy
    have hp := S.par n (List.of_mem_zip hy).1
    exact hp.elim Or.inl fun q => Or.inr ⟨q, PySem.W.cellsFrom_some _ _ _ (Or.inl q)⟩
  refine codeAny_call_function hr.depth (KX _ _ lk) rfl S.co S.gen rfl (PySem.W.codeRec_of KX hcd) (hb _ _ _ _ (wpAny_newFunctionEnv_cells S.kind kinds ?_))
  intro env he s1 x
  cases he
  refine ⟨(e0.mod.nolimit.keeps old).keeps x.toInCall.keep, codeAny_func ?_⟩
  obtain ⟨t, ht, hq⟩ := hbody base cdv callerA [] s H vs Q E rfl (hr.deeper _) hsp
  have I := inv_start (CX := CX0) (E := E) S hr.hd e0 (len _ _ _ _ hsp) r x
  refine wpAny_mono (ht.nox.run [] s1 (start N vs) H _ I hq) ?_ fun _ _ z => z
  intro fl s' hs
  match fl, hs with
  | .ret u, ⟨v, _, H', J, rv, q⟩ => exact ⟨v, H', J.os, J.bare, J.base, J.hok, rv, q⟩
  | .next, ⟨_, H', J, q⟩ => exact ⟨V.non, H', J.os, J.bare, J.base, J.hok, rfl, q⟩
  | .brk, ⟨_, _, _, q⟩ => exact q.elim
  | .cont, ⟨_, _, _, q⟩ => exact q.elim
/-- the abstract heap at the law's entry: the script alone, locked, or nothing where it is one of the module's own -/
theorem entry_heap {P : Program} {w : World} {K : PySem.W.Frag} {s : Shared} {a : Addr} {vs : List Value} {ns : List Int} (KX : K.In s.heap) (ha : s.heap.get? a = some { cls := .type "list", data := .seq vs.toArray }) (hi : IntsAre vs ns) (hl : ns.length ≤ sizeLine) :
    ∃ H : Hp, Only H ∧ SqL K H a (ns.map V.int) ∧ HOk P w H s.heap ∧ (∀ b, H b ≠ none → b = a) ∧ (H a ≠ none → K.lookup a = none) := by
  have rv := vals_of_ints hi
  cases hk : K.lookup a with
  | some o =>
    have e := (KX a o hk).symm.trans ha
    cases e
    refine ⟨fun _ => none, fun _ => .inl rfl, .inr ⟨_, vs.toArray, _, hk, rfl, rfl, rfl, ?_, by simpa using rv⟩, fun b u z => (nomatch z), fun b z => absurd rfl z, fun z => absurd rfl z⟩
    rw [List.size_toArray, hi.length]
    exact hl
  | none =>
    let H : Hp := fun b => if b = a then some (.frz { cls := .type "list", data := .seq vs.toArray } (.lst (ns.map V.int))) else none
    have at_a : H a = some (.frz { cls := .type "list", data := .seq vs.toArray } (.lst (ns.map V.int))) := if_pos rfl
    have off : ∀ b, b ≠ a → H b = none := fun b hb => if_neg hb
    refine ⟨H, fun b => ?_, .inl (.inr ⟨_, at_a⟩), fun b u z => ?_, fun b z => ?_, fun _ => rfl⟩
    · by_cases hb : b = a
      · subst hb; exact .inr ⟨_, _, at_a⟩
      · exact .inl (off b hb)
    · by_cases hb : b = a
      · subst hb
        rw [at_a] at z
        cases z
        exact ⟨ha, by rw [List.length_map]; exact hl, vs, _, rv, ha⟩
      · rw [off b hb] at z
        cases z
    · by_cases hb : b = a
      · exact hb
      · exact absurd (off b hb) z
theorem top_call {P : Program} {w : World} {K : PySem.W.Frag} {mg mb : Str → Option Value} {k : Nat} {fa a : Addr} {fd : FuncData} {x : Str} {sp : Sp} {s : Shared} {vs : List Value} {ns : List Int}
    (KX : K.In s.heap) (hns : s.heap.Ns mainGlobals mg) (hb : s.heap.Ns builtinsNs mb) (hbb : ∀ x : Str, x ≠ "__name__" → mb x = bootBuiltins x) (hlim : s.heap.NoLimit) (hg : s.gens = #[])
    (ha : s.heap.get? a = some { cls := .type "list", data := .seq vs.toArray }) (hi : IntsAre vs ns) (hl : ns.length ≤ sizeLine) (hr : Room k callerA) (F : TopOk P w K mg k fa fd [x] sp) (hbind : ∀ (s : Shared) (u : Value), BindsTo s fd ⟨[u], []⟩ [(x, u)])
    (hsp : ∀ H : Hp, Only H → SqL K H a (ns.map V.int) → sp [.ref a] H (fun v _ => v = .bl true) fun _ _ _ => False) :
    codeAny (model P w) callerA (.call (.ref fa) ⟨[.ref a], []⟩) (fun r s' => r = .ok (.ret (.bool true)) ∧ OldK s.heap s'.heap ∧ s'.os = s.os ∧ AllBare s'.gens) s := by
  obtain ⟨H, hO, hS, hok, hA, hK⟩ := entry_heap (P := P) (w := w) KX ha hi hl
  have other : ∀ {b : Addr} {o : Obj}, s.heap.get? b = some o → (b = a → False) → (hidT s.heap H).get? b = some o := fun {b o} e n => hidT_get e (by
    cases q : H b with
    | none => rfl
    | some u => exact (n (hA b (by rw [q]; simp))).elim)
  have noD : ∀ {b : Addr} {m : Str → Option Value}, s.heap.Ns b m → (hidT s.heap H).Ns b m := fun {b m} ⟨o, es, ep, e, d, r⟩ => ⟨o, es, ep, other e (fun z => by
    rw [z, ha] at e; cases e; cases d), d, r⟩
  have inK : K.In (hidT s.heap H) := fun b o e => hidT_get (KX b o e) (by
    cases q : H b with
    | none => rfl
    | some u =>
      have z := hA b (by rw [q]; simp)
      subst z
      rw [hK (by rw [q]; simp)] at e
      cases e)
  have M : Mod K mg (hidT s.heap H) := ⟨inK, noD hns, ⟨mb, noD hb, hbb⟩, let ⟨mc, h1, h2⟩ := hlim; ⟨mc, noD h1, h2⟩⟩
  have none_in : ∀ b : Addr, b ∉ frs [] := fun b z => (nomatch (show b ∈ ([] : List Addr) from z))
  have e0 : Env0 P w K mg (hidT s.heap H) callerA [] s H := { frames := rfl, mod := M, bs := fun b o e => of_hidT e, bsz := Nat.le_of_eq (hidT_size _ _), funs := trivial, frf := fun b z => (none_in b z).elim, hok := hok, bare := .of_eq hg }
  refine codeAny_mono (F.run _ s H ⟨[.ref a], []⟩ [.ref a] [.ref a] _ _ hr e0 (hbind s (.ref a)) (.cons rfl .nil) (hsp H hO hS)) ?_
  intro r s' h
  match r, h with
  | .ok (.ret u), ⟨v, H', os, bare, un, hok', rv, q⟩ =>
    cases (show v = .bl true from q)
    cases (show u = Value.bool true from rv)
    refine ⟨rfl, OldK.of_keep fun b o e => ?_, os, bare⟩
    rcases hO b with z | ⟨ob, xs, z⟩
    · exact un.keep b o e z (none_in b) (by simp)
    · have e1 := (hok b _ z).1
      rw [e] at e1
      cases e1
      exact (hok' b _ (un.frzs b _ _ z)).1
theorem walk_top {l : PySem.W.OpenLaw} {n k : Nat} {q : Program} {loose : List Str} {XP : (Str → Option Value) → Heap → Prop} {YP : World → Heap → Prop} {d : DefRec} {K : Params → PySem.W.Frag} {sp : World → Sp} {x : Str}
    (hn : l.most = some n) (hn2 : n ≤ sizeLine) (hdf : d.params.defaults = []) (hr : Room k callerA)
    (hY : ∀ (w : World) (h : Heap), YP w h → (K w.params).In h)
    (F : ∀ (w : World) (mg : Str → Option Value) (fa : Addr) (h : Heap), (K w.params).In h → h.Ns mainGlobals mg → mg d.name = some (.ref fa) →
      ∃ fd : FuncData, (∀ (s : Shared) (u : Value), BindsTo s fd ⟨[u], []⟩ [(x, u)]) ∧ TopOk l.prog w (K w.params) mg k fa fd [x] (sp w))
    (hsp : ∀ (w : World) (H : Hp) (a : Addr) (ns : List Int), ns.length ≤ n → Only H → SqL (K w.params) H a (ns.map V.int) → sp w [.ref a] H (fun v _ => v = .bl true) fun _ _ _ => False) :
    PySem.W.WalkO q loose XP YP l.row.toRowW d [] (fun f vs => PySem.call f vs) := by
  refine Att.attach_call hn hdf ?_
  intro w s₀ s₁ mg mb fa o pm cd doc a vs ns G Y ho hd hcd hmg hobj hints hlen hg
  obtain ⟨fd, hbi, hF⟩ := F w mg fa _ (hY w _ Y) G.T.g hmg
  exact top_call (hY w _ Y) G.T.g G.T.b G.T.builtins G.T.nolimit hg hobj hints (Nat.le_trans hlen hn2) hr hF hbi fun H hO hS => hsp w H a ns hlen hO hS
end Fld
/-! repr of data: how long its text may be, and the rule of the call. -/
namespace Fld
open PySem PySem.Spec PyProof.Rows L2
mutual
def okD : PyData → Bool
  | .none => true
  | .bool _ => true
  | .int i => decide (i.natAbs < 2 ^ 1000)
  | .str x => x.cps.toList.all fun c => decide (c < 4294967296)
  | .list xs => okAll xs
  | .tuple xs => okAll xs
  | .dict _ => false
def okAll : List PyData → Bool
  | [] => true
  | x :: xs => okD x && okAll xs
end
mutual
/-- no less than the length of its text -/
def wD : PyData → Nat
  | .none => 4
  | .bool _ => 5
  | .int _ => 1010
  | .str x => 10 * x.length + 2
  | .list xs => wAll xs + 4
  | .tuple xs => wAll xs + 4
  | .dict _ => 0
def wAll : List PyData → Nat
  | [] => 0
  | x :: xs => wD x + 2 + wAll xs
end
theorem textFrom_le : ∀ (ts : List Str) (k : Nat) (acc : Str), (textFrom k acc ts).length ≤ acc.length + piled ts
  | [], k, acc => by show acc.length ≤ _; omega
  | t :: r, k, acc => by
    have ih := textFrom_le r (k + 1) (acc ++ (if k > 0 then ", " else "" : String) ++ t)
    have e : (acc ++ (if k > 0 then ", " else "" : String) ++ t).length ≤ acc.length + 2 + t.length := by
      rw [strLen_append, strLen_append]
      split
      · exact Nat.le_refl _
      · show acc.length + 0 + t.length ≤ _; omega
    have e2 : piled (t :: r) = t.length + 2 + piled r := by unfold piled; rw [List.map_cons, List.sum_cons]
    show (textFrom (k + 1) _ r).length ≤ _
    omega
theorem listText_le (ts : List Str) : (listText ts).length ≤ piled ts + 4 := by
  unfold listText
  rw [strLen_append]
  have h := textFrom_le ts 0 "["
  have e1 : ((("[" : String) : Str)).length = 1 := rfl
  have e2 : ((("]" : String) : Str)).length = 1 := rfl
  omega
theorem tupleText_le (ts : List Str) : (tupleText ts).length ≤ piled ts + 4 := by
  unfold tupleText
  rw [strLen_append, strLen_append]
  have e1 : ((("(" : String) : Str)).length = 1 := rfl
  have e3 : (((if ts.length == 1 then ",)" else ")" : String) : Str)).length ≤ 2 := by split <;> decide
  by_cases h : ts = []
  · subst h
    have e0 : (Str.join ", " []).length = 0 := rfl
    omega
  · have := join_length_add ts h
    omega
theorem toString_le {i : Int} (h : i.natAbs < 2 ^ 1000) : (Str.ofString (toString i)).length ≤ 1010 := by
  have h1 : (Nat.repr i.natAbs).length ≤ 1000 := nat_repr_length_le (by decide) h
  have e : ∀ z : String, (Str.ofString z).length = z.length := fun z => by
    rw [TL.len_tl, TL.tl_ofString, List.length_map]
    rfl
  rw [e]
  cases i with
  | ofNat n =>
    have : (toString (Int.ofNat n)) = Nat.repr n := rfl
    rw [this]
    have h2 : (Nat.repr n).length ≤ 1000 := h1
    omega
  | negSucc n =>
    have : (toString (Int.negSucc n)) = "-" ++ Nat.repr (n + 1) := rfl
    rw [this, String.length_append]
    have h2 : (Nat.repr (n + 1)).length ≤ 1000 := h1
    have h3 : ("-" : String).length = 1 := rfl
    omega
theorem log_le {n : Nat} (h : n < 2 ^ 1000) : n.log2 < 1920 := by
  by_cases e : n = 0
  · subst e; decide
  · exact Nat.lt_trans ((Nat.log2_lt e).mpr h) (by decide)
mutual
theorem shown_le : ∀ d : PyData, okD d = true → d.shown.length ≤ wD d ∧ d.showable = true ∧ d.hasDict = false
  | .none, _ => ⟨by decide, rfl, rfl⟩
  | .bool b, _ => ⟨by cases b <;> decide, rfl, rfl⟩
  | .int i, h => by
    have h' : i.natAbs < 2 ^ 1000 := of_decide_eq_true (show decide _ = true from h)
    exact ⟨toString_le h', decide_eq_true (log_le h'), rfl⟩
  | .str x, h => by
    refine ⟨StrLaws.reprText_len x fun c hc => ?_, rfl, rfl⟩
    have h' : (x.cps.toList.all fun c => decide (c < 4294967296)) = true := h
    have := of_decide_eq_true (List.all_eq_true.mp h' c hc)
    have e : (16 : Nat) ^ 8 = 4294967296 := by decide
    omega
  | .list xs, h => by
    have ih := shownAll_le xs h
    refine ⟨?_, by rw [PyData.showable]; exact ih.2.1, by rw [PyData.hasDict]; exact ih.2.2⟩
    rw [PyData.shown, wD]
    have := listText_le (PyData.shownAll xs)
    omega
  | .tuple xs, h => by
    have ih := shownAll_le xs h
    refine ⟨?_, by rw [PyData.showable]; exact ih.2.1, by rw [PyData.hasDict]; exact ih.2.2⟩
    rw [PyData.shown, wD]
    have := tupleText_le (PyData.shownAll xs)
    omega
  | .dict _, h => by cases h
theorem shownAll_le : ∀ ds : List PyData, okAll ds = true → piled (PyData.shownAll ds) ≤ wAll ds ∧ PyData.showableAll ds = true ∧ PyData.hasDictAll ds = false
  | [], _ => ⟨by rw [PyData.shownAll]; exact Nat.le_refl _, rfl, rfl⟩
  | d :: ds, h => by
    have h' : (okD d && okAll ds) = true := by rw [okAll] at h; exact h
    rw [Bool.and_eq_true] at h'
    have i1 := shown_le d h'.1
    have i2 := shownAll_le ds h'.2
    refine ⟨?_, by rw [PyData.showableAll, i1.2.1, i2.2.1]; rfl, by rw [PyData.hasDictAll, i1.2.2, i2.2.2]; rfl⟩
    rw [PyData.shownAll, wAll]
    have e2 : piled (d.shown :: PyData.shownAll ds) = d.shown.length + 2 + piled (PyData.shownAll ds) := by unfold piled; rw [List.map_cons, List.sum_cons]
    omega
end
mutual
theorem dle_depth : ∀ (d : PyData) (n : Nat), DLe n d → d.depth ≤ n
  | .none, _, _ => by rw [PyData.depth]; omega
  | .bool _, _, _ => by rw [PyData.depth]; omega
  | .int _, _, _ => by rw [PyData.depth]; omega
  | .str _, _, _ => by rw [PyData.depth]; omega
  | .list xs, 0, h => (by simp [DLe] at h)
  | .list xs, n + 1, h => by
    have h' : xs.length ≤ 100000 ∧ ∀ d ∈ xs, DLe n d := by simpa [DLe] using h
    rw [PyData.depth]
    have := dle_depthAll xs n h'.2
    omega
  | .tuple xs, 0, h => (by simp [DLe] at h)
  | .tuple xs, n + 1, h => by
    have h' : xs.length ≤ 100000 ∧ ∀ d ∈ xs, DLe n d := by simpa [DLe] using h
    rw [PyData.depth]
    have := dle_depthAll xs n h'.2
    omega
  | .dict _, n, h => by cases n <;> simp [DLe] at h
theorem dle_depthAll : ∀ (ds : List PyData) (n : Nat), (∀ d ∈ ds, DLe n d) → PyData.depthAll ds ≤ n
  | [], _, _ => by rw [PyData.depthAll]; omega
  | d :: ds, n, h => by
    rw [PyData.depthAll]
    have h1 := dle_depth d n (h d (List.mem_cons_self ..))
    have h2 := dle_depthAll ds n fun e he => h e (List.mem_cons_of_mem _ he)
    omega
end
def rRepr (K : PySem.W.Frag) : List V → Hp → VK → Prop := fun xs H Q => ∃ (x : V) (d : PyData) (n : Nat), xs = [x] ∧ Dp K H x d ∧ okD d = true ∧ DLe n d ∧ n ≤ 40 ∧ wD d ≤ 10000000 ∧ Q (.str d.shown) H
theorem call_repr {X : Cx} (hg : X.A.guards = some []) (hu : X.A.units + 64 < cLine) : CallR X (.builtin "repr") (rRepr X.K) := by
  intro pins s σ H xs us Q I r h
  obtain ⟨x, d, n, rfl, hd, ok, hn, hn2, hw, q⟩ := h
  obtain ⟨u, rfl, ru⟩ := vals1 r
  obtain ⟨hl, hs, hnd⟩ := shown_le d ok
  have hsz : d.shown.length ≤ sizeLine := by rw [sizeLine_eq]; omega
  obtain ⟨as, rd⟩ := Dp.reads I d x u hd ru
  have hdep := dle_depth d n hn
  cases hd with
  | non =>
    cases ru
    exact P.repr_of_none ⟨.str _, H, I.tok _, ⟨_, rfl⟩, q⟩
  | bl b =>
    cases ru
    exact P.repr_of_bool ⟨.str _, H, I.tok _, ⟨_, rfl⟩, q⟩
  | int i =>
    obtain ⟨t, rfl⟩ := ru
    have h' : i.natAbs < 2 ^ 1000 := of_decide_eq_true (show decide _ = true from ok)
    exact P.repr_of_int (log_le h') ⟨.str _, H, I.tok _, ⟨_, rfl⟩, q⟩
  | str y =>
    obtain ⟨t, rfl⟩ := ru
    exact P.repr_of_str ⟨.str _, H, I.tok _, ⟨_, rfl⟩, q⟩ hsz
  | lst _ _ =>
    cases ru
    exact repr_of_reads' rd hs (PyData.noDict_hsm hnd) hg (by omega) (fun _ _ e => e) (fun h' tu tk hk => ⟨.str _, H, I.kept hk, ⟨_, rfl⟩, q⟩) hsz
  | tup _ _ =>
    cases ru
    exact repr_of_reads' rd hs (PyData.noDict_hsm hnd) hg (by omega) (fun _ _ e => e) (fun h' tu tk hk => ⟨.str _, H, I.kept hk, ⟨_, rfl⟩, q⟩) hsz
end Fld
/-! Errors of the program: a base of its own over ValueError, whose __init__ is called by name out of the __init__ of its heirs. -/
namespace Fld
open PySem PySem.Spec PyProof.Rows L2
section
variable {X : Cx} {e : Expr} {es : List Expr} {ta : TA} {x : Str} {FE : Addr} {mc : Value} {p1 p2 pos : Pos}
/-- what the written part says of the base -/
structure BaseC (K : PySem.W.Frag) (mg : Str → Option Value) (x : Str) (FE : Addr) (mc : Value) : Prop where
  g : mg x = some (.ref FE)
  rd : ClX.CRead K FE mc
  ini : PySem.W.findCls K (.ref FE) mc "__init__" = some (.val (.builtin "ValueError.__init__"))
theorem pe_feinit {pl : Sem Bool} (B : BaseC X.K X.mg x FE mc) (hg : Gl X x) (ha : PA X (e :: es) ta) (hdb : (x == ("__debug__" : Str)) = false := by decide)
    (hc : eval (.Call (.Attribute (.Name x p1) "__init__" p2) (e :: es) [] pos) X.env = (do
      let ov ← eval (.Name x p1) X.env
      standAt p2.atName
      let (f, first) ← holding [ov] (getMethod ov "__init__" pl)
      callWith pos f first (backTo pos (starEach (e :: es) X.env)) (backToKw pos (keywordEach [] X.env))) := by rfl)
    (he : starEach (e :: es) X.env = (false, eval e X.env) :: starEach es X.env := by rfl) (hpl : (backTo pos (starEach es X.env)).any (·.1) = false := by rfl) :
    PE X (.Call (.Attribute (.Name x p1) "__init__" p2) (e :: es) [] pos) (tVeI X.K ta) := by
  refine ⟨?_⟩
  intro pins s σ H Q I h
  refine PySem.W.methodCall_KW (ld_glob I hg B.g ?_ hdb) hc
  refine PySem.W.method_cls I.kIn B.rd.ga (PySem.W.cls_value I.kIn B.rd.rd B.ini rfl ?_)
  show wpAny _ _ (callWith pos (Value.builtin "ValueError.__init__") [] (backTo pos (starEach (e :: es) X.env)) []) _ _ _
  refine PyProof.Rows.callWith_method1 (thn (ha.run pos pins _ σ H _ (I.tok _) h) ?_) he hpl
  rintro us s1 ⟨vs, H1, I1, r1, a, C, ws, rfl, hl, TC, ea, q⟩
  cases r1 with
  | cons ra rw' =>
    cases (show _ = Value.ref a from ra)
    exact oinit_ok TC I1 ea (by rw [← Paired.length rw', sizeLine_eq]; omega) fun s' J => ⟨.non, H1, J, rfl, q⟩
end
/-- __init__ of an heir: its one argument is kept as the attribute f -/
def sp_err (C : Addr) (f : Str) : Sp := fun vs H Q _ => ∃ (a : Addr) (k : Int), vs = [.ref a, .int k] ∧ k.natAbs < 2 ^ 1000 ∧ H a = some (exo a C none) ∧
  ∀ dx, H dx = none → dx ≠ a → Q .non (upd (upd H dx (exd dx [(f, .int k)])) a (exo a C (some dx)))
/-- what the written part says of an heir at C, its __init__ at fI -/
structure ErrC (K : PySem.W.Frag) (mg : Str → Option Value) (x f : Str) (C fI : Addr) : Prop where
  ox : OexC K C
  g : mg x = some (.ref C)
  iC : PySem.W.findIn K (.ref C) "__init__" = some (some (.ref fI))
  tI : PySem.W.typeIn K (.ref fI) = some (.type "function")
  no : PySem.W.findIn K (.ref C) f = some none
/-- raise C(e): what its reading asks behind the argument -/
def tRaiseE (C : Addr) (f : Str) (W : WX) (ta : TA) : TS := fun _ σ H => tMkO C (sp_err C f) [] ta σ H fun cls d H' => W cls d σ H'
theorem ps_raiseE {X : Cx} {CX : CXT} {x f : Str} {C fI : Addr} {k : Nat} {fd : FuncData} {e : Expr} {ta : TA} {W : WX} {p pos pos2 : Pos} (hcalm : X.calm = true) (T : ErrC X.K X.mg x f C fI) (F1 : FnOk X.prog X.w X.K X.mg X.base CX k fI fd ["self", f] (sp_err C f)) (hr : Room (k + 1) X.A) (hb : Binds X.K fd ["self", f] [])
    (hx : Passes CX X (fun _ _ _ => False)) (tk : Takes X W) (hg : Gl X x) (ha : PA X [e] ta)
    (hdb : (x == ("__debug__" : Str)) = false := by decide) (he : starEach (e :: []) X.env = (false, eval e X.env) :: starEach [] X.env := by rfl) (hpl : (backTo pos (starEach [] X.env)).any (·.1) = false := by rfl) :
    PS X (.Raise (some (.Call (.Name x p) [e] [] pos)) none pos2) (tRaiseE C f W ta) :=
  ps_raise (pos := pos2) hcalm tk (pmk_oex (pos := pos) (p := p) T.ox T.iC T.tI F1 hr hb .nil hx hg T.g ha hdb he hpl)
/-- the error's own dict, new, holds the number; all that stood stands -/
theorem err_go {C : Addr} {f : Str} {k : Int} {H1 : Hp} {Q : Value → Option Addr → Hp → Prop} (hk : k.natAbs < 2 ^ 1000) (q : ∀ (d : Addr) H', Same H1 H' → H1 d = none → H' d = some (.xd [(f, .int k)]) → Q (.ref C) (some d) H') :
    ([V.int k] : List V).length ≤ 1000 ∧ ∀ a, H1 a = none → sp_err C f (.ref a :: ([.int k] ++ [])) (upd H1 a (exo a C none)) (fun v H2 => v = .non ∧ ∃ (d : Addr) (fs : List (Str × V)), H2 a = some (exo a C (some d)) ∧ H2 d = some (exd d fs) ∧ H1 d = none ∧ Q (.ref C) (some d) (upd (del H2 a) d (.xd fs))) (fun _ _ _ => False) := by
  refine ⟨by show 1 ≤ 1000; decide, fun a hna => ⟨a, k, rfl, hk, upd_same, fun dx hdx hda => ⟨rfl, dx, [(f, .int k)], upd_same, ?_, ?_, ?_⟩⟩⟩
  · rw [upd_ne hda, upd_same]
  · rw [upd_ne hda] at hdx; exact hdx
  · have hdx' : H1 dx = none := by rw [upd_ne hda] at hdx; exact hdx
    refine q dx _ (fun b o hb => ?_) hdx' upd_same
    have n1 : b ≠ dx := ne_of_none hb hdx'
    have n2 : b ≠ a := ne_of_none hb hna
    rw [upd_ne n1, del_ne n2, upd_ne n2, upd_ne n1, upd_ne n2]
    exact hb
/-- a plain heir: no __init__ of its own -/
structure PlainC (K : PySem.W.Frag) (mg : Str → Option Value) (x : Str) (C : Addr) (bm : List Value) : Prop where
  g : mg x = some (.ref C)
  x_ : PySem.W.excIn K C bm "ValueError.__new__" = true
  k_ : PySem.W.keepIn K (.ref C) = true
  b_ : PySem.W.subIn K (.ref C) (.type "BaseException") = some true
  t_ : PySem.W.typeIn K (.ref C) = some (.type "type")
/-- what an except clause asks of a base of the program's own -/
structure RootC (K : PySem.W.Frag) (C : Addr) : Prop where
  b_ : PySem.W.subIn K (.ref C) (.type "BaseException") = some true
  t_ : PySem.W.typeIn K (.ref C) = some (.type "type")
  d_ : PySem.W.hasDictIn K C = true
structure HeirC (K : PySem.W.Frag) (C FE : Addr) : Prop where
  b_ : PySem.W.subIn K (.ref C) (.type "BaseException") = some true
  t_ : PySem.W.typeIn K (.ref C) = some (.type "type")
  u_ : PySem.W.subIn K (.ref C) (.ref FE) = some true
theorem RootC.exm {K : PySem.W.Frag} {C FE : Addr} (r : RootC K FE) (h : HeirC K C FE) : PySem.W.exmOne K (.ref C) (.ref FE) = some true := PySem.W.exm_ref r.b_ r.d_ r.t_ h.u_
/-- text += text on a local -/
def ipT : TIp := fun x y H Q => ∃ i j, x = .str i ∧ y = .str j ∧ i.length + j.length ≤ sizeLine ∧ Q (.str (i ++ j)) H
theorem ip_addT {X : Cx} : PIp X .Add ipT := fun pins s σ H x y u v Q I rx ry h => iop_add_str pins s σ H x y u v Q I rx ry h
end Fld
/-! The reader of octets: its state, what its calls return or raise, by a mirror over the list of octets. -/
namespace Fld
open PySem PySem.Spec PyProof.Rows L2
/-- the reader at r, over the octets os at a, stands at place k -/
structure Rd (K : PySem.W.Frag) (C : Addr) (H : Hp) (r a : Addr) (os : List Int) (k : Nat) : Prop where
  ex : ∃ dx, H r = some (.ins C dx [("octets", .ref a), ("place", .int (k : Nat))])
  sq : SqL K H a (os.map V.int)
  ne : a ≠ r
  lt : ∀ o ∈ os, 0 ≤ o ∧ o < 256
  len : os.length ≤ 1000000
  le : k ≤ os.length
theorem Rd.keep {K : PySem.W.Frag} {C r a : Addr} {H H' : Hp} {os : List Int} {k : Nat} (h : Rd K C H r a os k) (s : Same H H') : Rd K C H' r a os k := by
  obtain ⟨dx, e⟩ := h.ex
  exact ⟨⟨dx, s _ _ e⟩, s.seq h.sq, h.ne, h.lt, h.len, h.le⟩
theorem Rd.get {K : PySem.W.Frag} {C r a : Addr} {H : Hp} {os : List Int} {k : Nat} (h : Rd K C H r a os k) {o : Int} (e : os[k]? = some o) : 0 ≤ o ∧ o < 256 := h.lt o (List.mem_of_getElem? e)
theorem Rd.end_ {K : PySem.W.Frag} {C r a : Addr} {H : Hp} {os : List Int} {k : Nat} (h : Rd K C H r a os k) (e : os[k]? = none) : k = os.length := by
  have := List.getElem?_eq_none_iff.mp e
  have := h.le
  omega
/-- an error with the place e -/
def RdErr (N r : Addr) (H : Hp) (E : XK) (e : Nat) : Prop := ∀ (d : Addr) H', But r H H' → H' d = some (.xd [("place", .int (e : Nat))]) → E (.ref N) (some d) H'
theorem RdErr.pre {N r : Addr} {H H1 : Hp} {E : XK} {e : Nat} (b : But r H H1) (h : RdErr N r H E e) : RdErr N r H1 E e := fun d H' b2 hd => h d H' (b.trans b2) hd
/-- a call: a value, the place moved; or the error -/
def RdRes {α : Type} (K : PySem.W.Frag) (C N r a : Addr) (os : List Int) (H : Hp) (Q : VK) (E : XK) (R : α → V → Hp → Prop) : Except Nat (α × Nat) → Prop
  | .ok (x, k') => ∀ v H', But r H H' → Rd K C H' r a os k' → R x v H' → Q v H'
  | .error e => RdErr N r H E e
theorem lenL {K : PySem.W.Frag} {H : Hp} {a : Addr} {xs : List V} (h : SqL K H a xs) : LenV K (.ref a) H xs.length := .inl ⟨xs, h, rfl⟩
theorem small_int {K : PySem.W.Frag} {C r a : Addr} {H : Hp} {os : List Int} {k : Nat} (h : Rd K C H r a os k) : ((k : Nat) : Int).natAbs < 2 ^ 1000 := by
  have h1 := h.le
  have h2 := h.len
  have h3 : (1000001 : Nat) < 2 ^ 1000 := by decide +kernel
  rw [Int.natAbs_natCast]
  omega
/-! ### mirrors -/
def takeRest (most : Int) : List Int → Nat → Int → Int → Except Nat (Int × Nat)
  | [], k, _, _ => .error k
  | o :: l, k, r, w =>
    if 128 ≤ o then (if r + (o - 128) * w + w * 128 ≤ most then takeRest most l (k + 1) (r + (o - 128) * w) (w * 128) else .error k)
    else if r + o * w ≤ most ∧ (0 < o ∨ w = 1) then .ok (r + o * w, k + 1) else .error k
def takeNum (os : List Int) (b m : Nat) (least most : Int) (k : Nat) : Except Nat (Int × Nat) :=
  match os[k]? with
  | none => .error k
  | some o => if least ≤ o - m ∧ o - m ≤ min ((2 ^ b - 1 : Nat) : Int) most then
      (if o - m < ((2 ^ b - 1 : Nat) : Int) then .ok (o - m, k + 1)
       else (takeRest (most - ((2 ^ b - 1 : Nat) : Int)) (os.drop (k + 1)) (k + 1) 0 1).map fun z => (((2 ^ b - 1 : Nat) : Int) + z.1, z.2))
    else .error k
def takeChars : Nat → List Int → Nat → Except Nat (List Nat × Nat)
  | 0, _, k => .ok ([], k)
  | _ + 1, [], k => .error k
  | n + 1, o :: l, k => if isChar o.toNat then (takeChars n l (k + 1)).map fun z => (o.toNat :: z.1, z.2) else .error k
def takeStr (os : List Int) (b m : Nat) (least most : Int) (k : Nat) : Except Nat (Str × Nat) :=
  match takeNum os b m least most k with
  | .error e => .error e
  | .ok (n, k1) => (takeChars n.toNat (os.drop k1) k1).map fun z => (⟨z.1.toArray⟩, z.2)
theorem takeRest_bound (most : Int) : ∀ (l : List Int) (k : Nat) (r w : Int) (n : Int) (k1 : Nat), 0 ≤ r → 0 ≤ w → (∀ o ∈ l, 0 ≤ o) → takeRest most l k r w = .ok (n, k1) → 0 ≤ n ∧ n ≤ most
  | [], k, r, w, n, k1, _, _, _, h => by rw [takeRest] at h; cases h
  | o :: l, k, r, w, n, k1, hr, hw, ho, h => by
    have ho1 := ho o (List.mem_cons_self ..)
    have hm := Int.mul_nonneg ho1 hw
    rw [takeRest] at h
    by_cases h1 : 128 ≤ o
    · rw [if_pos h1] at h
      by_cases h2 : r + (o - 128) * w + w * 128 ≤ most
      · rw [if_pos h2] at h
        have := Int.mul_nonneg (show 0 ≤ o - 128 by omega) hw
        exact takeRest_bound most l _ _ _ n k1 (by omega) (by omega) (fun x hx => ho x (List.mem_cons_of_mem _ hx)) h
      · rw [if_neg h2] at h; cases h
    · rw [if_neg h1] at h
      by_cases h2 : r + o * w ≤ most ∧ (0 < o ∨ w = 1)
      · rw [if_pos h2] at h
        cases h
        exact ⟨by omega, h2.1⟩
      · rw [if_neg h2] at h; cases h
theorem takeNum_bound (os : List Int) (b m : Nat) (least most : Int) (k : Nat) (hos : ∀ o ∈ os, 0 ≤ o) : ∀ n k1, takeNum os b m least most k = .ok (n, k1) → least ≤ n ∧ n ≤ most := by
  intro n k1 h
  rw [takeNum] at h
  cases ho : os[k]? with
  | none => rw [ho] at h; cases h
  | some o =>
    rw [ho] at h
    dsimp only at h
    have hp0 := pow_pos2 b
    by_cases h1 : least ≤ o - (m : Int) ∧ o - (m : Int) ≤ min ((2 ^ b - 1 : Nat) : Int) most
    · rw [if_pos h1] at h
      by_cases h2 : o - (m : Int) < ((2 ^ b - 1 : Nat) : Int)
      · rw [if_pos h2] at h
        cases h
        omega
      · rw [if_neg h2] at h
        cases ht : takeRest (most - ((2 ^ b - 1 : Nat) : Int)) (os.drop (k + 1)) (k + 1) 0 1 with
        | error z => rw [ht] at h; cases h
        | ok z =>
          rw [ht] at h
          cases h
          have := takeRest_bound _ _ _ _ _ z.1 z.2 (by decide) (by decide) (fun x hx => hos x (List.mem_of_mem_drop hx)) ht
          omega
    · rw [if_neg h1] at h; cases h
def rInt : Int → V → Hp → Prop := fun z v _ => v = .int z
def rStr : Str → V → Hp → Prop := fun x v _ => v = .str x
/-! ### what is promised -/
def sp_Reader_init (K : PySem.W.Frag) : Sp := fun vs H Q _ => ∃ (r a C dx : Addr), vs = [.ref r, .ref a] ∧ H r = some (.ins C dx []) ∧ Cls K C ∧ NoAttr K C "octets" ∧ NoAttr K C "place" ∧
  ∀ H', (∀ b, b ≠ r → H' b = H b) → H' r = some (.ins C dx [("octets", .ref a), ("place", .int 0)]) → Q .non H'
def sp_Reader_at_end (K : PySem.W.Frag) (C : Addr) : Sp := fun vs H Q _ => ∃ (r a : Addr) (os : List Int) (k : Nat), vs = [.ref r] ∧ Rd K C H r a os k ∧ Q (.bl (decide (k = os.length))) H
def sp_Reader_look (K : PySem.W.Frag) (C N : Addr) : Sp := fun vs H Q E => ∃ (r a : Addr) (os : List Int) (k : Nat), vs = [.ref r] ∧ Rd K C H r a os k ∧ (os[k]? = none → RdErr N r H E k) ∧ ∀ o, os[k]? = some o → Q (.int o) H
def sp_Reader_accept (K : PySem.W.Frag) (C N : Addr) : Sp := fun vs H Q E => ∃ (r a : Addr) (os : List Int) (k : Nat) (b : Bool), vs = [.ref r, .bl b] ∧ Rd K C H r a os k ∧ k < os.length ∧ (b = false → RdErr N r H E k) ∧
  (b = true → ∀ H', But r H H' → Rd K C H' r a os (k + 1) → Q .non H')
theorem acc_of {K : PySem.W.Frag} {C N r a : Addr} {os : List Int} {k : Nat} {H : Hp} {Q' : VK} {E : XK} {bb : Bool} {p : Prop} [Decidable p] (R : Rd K C H r a os k) (hlt : k < os.length) (hb : bb = decide p) (h1 : ¬ p → RdErr N r H E k)
    (h2 : p → ∀ H1, But r H H1 → Rd K C H1 r a os (k + 1) → Q' .non H1) : sp_Reader_accept K C N [.ref r, .bl bb] H Q' E :=
  ⟨r, a, os, k, bb, rfl, R, hlt, fun e => h1 (of_decide_eq_false (hb.symm.trans e)), fun e => h2 (of_decide_eq_true (hb.symm.trans e))⟩
theorem RdRes.pre {α : Type} {K : PySem.W.Frag} {C N r a : Addr} {os : List Int} {H H1 : Hp} {Q : VK} {E : XK} {R : α → V → Hp → Prop} {x : Except Nat (α × Nat)} (b : But r H H1) (h : RdRes K C N r a os H Q E R x) : RdRes K C N r a os H1 Q E R x := by
  cases x with
  | error e => exact RdErr.pre b h
  | ok z => exact fun v H' b2 R2 hv => h v H' (b.trans b2) R2 hv
def sp_Reader_finish (K : PySem.W.Frag) (C N : Addr) : Sp := fun vs H Q E => ∃ (r a : Addr) (os : List Int) (k : Nat), vs = [.ref r] ∧ Rd K C H r a os k ∧ (k ≠ os.length → RdErr N r H E k) ∧ (k = os.length → Q .non H)
def sp_Reader_take_rest (K : PySem.W.Frag) (C N : Addr) : Sp := fun vs H Q E => ∃ (r a : Addr) (os : List Int) (k : Nat) (most : Int), vs = [.ref r, .int most] ∧ Rd K C H r a os k ∧ most ≤ 1000000 ∧ RdRes K C N r a os H Q E rInt (takeRest most (os.drop k) k 0 1)
def sp_Reader_take_number (K : PySem.W.Frag) (C N : Addr) : Sp := fun vs H Q E => ∃ (r a : Addr) (os : List Int) (k b m : Nat) (least most : Int), vs = [.ref r, .int (b : Nat), .int (m : Nat), .int least, .int most] ∧ Rd K C H r a os k ∧ b ≤ 8 ∧ most ≤ 1000000 ∧
  RdRes K C N r a os H Q E rInt (takeNum os b m least most k)
def sp_Reader_take_string (K : PySem.W.Frag) (C N : Addr) : Sp := fun vs H Q E => ∃ (r a : Addr) (os : List Int) (k b m : Nat) (least most : Int), vs = [.ref r, .int (b : Nat), .int (m : Nat), .int least, .int most] ∧ Rd K C H r a os k ∧ b ≤ 8 ∧ 0 ≤ least ∧ most ≤ 10000 ∧
  RdRes K C N r a os H Q E rStr (takeStr os b m least most k)
def sp_Reader_take_name (K : PySem.W.Frag) (C N : Addr) : Sp := fun vs H Q E => ∃ (r a : Addr) (os : List Int) (k b m : Nat), vs = [.ref r, .int (b : Nat), .int (m : Nat)] ∧ Rd K C H r a os k ∧ b ≤ 8 ∧ RdRes K C N r a os H Q E rStr (takeStr os b m 1 20 k)
def sp_Reader_take_value (K : PySem.W.Frag) (C N : Addr) : Sp := fun vs H Q E => ∃ (r a : Addr) (os : List Int) (k : Nat), vs = [.ref r] ∧ Rd K C H r a os k ∧ RdRes K C N r a os H Q E rStr (takeStr os 7 0 0 40 k)
end Fld
/-! Instructions and answers: their values, their octets, what is read of octets. -/
namespace Fld
open PySem PySem.Spec PyProof.Rows L2
def sp_is_stream (K : PySem.W.Frag) : Sp := fun vs H Q _ => ∃ (v : V) (t : String), vs = [v] ∧ Kind K H v t ∧ Q (.bl (btw v 0 20)) H
def sp_is_name (K : PySem.W.Frag) : Sp := fun vs H Q _ => ∃ (v : V) (t : String), vs = [v] ∧ Kind K H v t ∧ (∀ x, v = .str x → x.length ≤ 100000) ∧ ∀ H', Same H H' → Q (.bl (txt v 1 20)) H'
/-- a list of any values of a kind, or a value of another kind: what comes for each -/
def AnyL (K : PySem.W.Frag) (H : Hp) (v : V) (Y : List V → Prop) (N : Prop) : Prop :=
  (∃ a xs, v = .ref a ∧ SqL K H a xs ∧ xs.length ≤ 1000000 ∧ (∀ x ∈ xs, ∃ t, Kind K H x t) ∧ Y xs) ∨ ∃ t, Kind K H v t ∧ (t == "list") = false ∧ N
/-- .. the list one of the heap -/
def AnyH (K : PySem.W.Frag) (H : Hp) (v : V) (Y : List V → Prop) (N : Prop) : Prop :=
  (∃ a xs, v = .ref a ∧ H a = some (.lst xs) ∧ xs.length ≤ 1000000 ∧ (∀ x ∈ xs, ∃ t, Kind K H x t) ∧ Y xs) ∨ ∃ t, Kind K H v t ∧ (t == "list") = false ∧ N
def octV (xs : List V) : Bool := xs.all fun x => btw x 0 255
def sp_are_octets (K : PySem.W.Frag) : Sp := fun vs H Q _ => ∃ v, vs = [v] ∧ AnyL K H v (fun xs => ∀ H', Same H H' → Q (.bl (octV xs)) H') (∀ H', Same H H' → Q (.bl false) H')
def sp_check_octets (K : PySem.W.Frag) (N : Addr) : Sp := fun vs H Q E => ∃ v, vs = [v] ∧ AnyL K H v (fun xs => ∀ H', Same H H' → if octV xs = true then Q .non H' else E (.ref N) none H') (∀ H', Same H H' → E (.ref N) none H')
def strOct (x : Str) (b m : Nat) : List Int := numOct x.length b m ++ x.cps.toList.map fun (c : Nat) => (c : Int)
def sp_value_octets : Sp := fun vs H Q _ => ∃ (x : Str), vs = [.str x] ∧ txt (.str x) 0 40 = true ∧ RetInts (strOct x 7 0) H Q
inductive Ins where
  | again (n : Nat) | limit (n : Nat) | fixed (n : Nat) (x : Str) | entry (n : Nat) (x : Str) | new (y x : Str)
def Ins.vs : Ins → List V
  | .again n => [.str "again", .int n]
  | .limit n => [.str "limit", .int n]
  | .fixed n x => [.str "fixed", .int n, .str x]
  | .entry n x => [.str "entry", .int n, .str x]
  | .new y x => [.str "new", .str y, .str x]
def Ins.Ok : Ins → Prop
  | .again n => n ≤ 9999
  | .limit n => n ≤ 9999
  | .fixed n x => n ≤ 9999 ∧ txt (.str x) 0 40 = true
  | .entry n x => n ≤ 9999 ∧ txt (.str x) 0 40 = true
  | .new y x => txt (.str y) 1 20 = true ∧ txt (.str x) 0 40 = true
def Ins.oct : Ins → List Int
  | .again n => numOct n 5 0
  | .limit n => numOct n 5 32
  | .fixed n x => numOct n 6 192 ++ strOct x 7 0
  | .entry n x => numOct n 6 128 ++ strOct x 7 0
  | .new y x => strOct y 5 64 ++ strOct x 7 0
/-- the value v is the instruction i -/
def InsV (K : PySem.W.Frag) (H : Hp) (v : V) (i : Ins) : Prop := ∃ a, v = .ref a ∧ SqT K H a i.vs
inductive Ans where
  | done (n : Nat) | cancelled (n : Nat) | received (n : Nat)
def Ans.vs : Ans → List V
  | .done n => [.str "done", .int n]
  | .cancelled n => [.str "cancelled", .int n]
  | .received n => [.str "received", .int n]
def Ans.Ok : Ans → Prop
  | .done n => n ≤ 20
  | .cancelled n => n ≤ 20
  | .received n => 1 ≤ n ∧ n ≤ 9999
def Ans.oct : Ans → List Int
  | .done n => numOct n 7 128
  | .cancelled n => numOct n 6 64
  | .received n => numOct n 6 0
def AnsV (K : PySem.W.Frag) (H : Hp) (v : V) (i : Ans) : Prop := ∃ a, v = .ref a ∧ SqT K H a i.vs
/-! ### reading -/
def takeSrc (os : List Int) (k : Nat) : Except Nat ((Str ⊕ Bool × Nat) × Nat) :=
  match os[k]? with
  | none => .error k
  | some o => if 192 ≤ o then (takeNum os 6 192 0 9999 k).map fun z => (.inr (true, z.1.toNat), z.2)
    else if 128 ≤ o then (takeNum os 6 128 0 9999 k).map fun z => (.inr (false, z.1.toNat), z.2)
    else (takeStr os 5 64 1 20 k).map fun z => (.inl z.1, z.2)
def srcIns (x : Str) : Str ⊕ Bool × Nat → Ins
  | .inl y => .new y x
  | .inr (true, n) => .fixed n x
  | .inr (false, n) => .entry n x
def takeIns (os : List Int) (k : Nat) : Except Nat (Ins × Nat) :=
  match os[k]? with
  | none => .error k
  | some o => if o < 32 then (takeNum os 5 0 0 9999 k).map fun z => (.again z.1.toNat, z.2)
    else if o < 64 then (takeNum os 5 32 0 9999 k).map fun z => (.limit z.1.toNat, z.2)
    else match takeSrc os k with
      | .error e => .error e
      | .ok (s, k1) => (takeStr os 7 0 0 40 k1).map fun z => (srcIns z.1 s, z.2)
def takeAns (os : List Int) (k : Nat) : Except Nat (Ans × Nat) :=
  match os[k]? with
  | none => .error k
  | some o => if 128 ≤ o then (takeNum os 7 128 0 20 k).map fun z => (.done z.1.toNat, z.2)
    else if 64 ≤ o then (takeNum os 6 64 0 20 k).map fun z => (.cancelled z.1.toNat, z.2)
    else (takeNum os 6 0 1 9999 k).map fun z => (.received z.1.toNat, z.2)
/-- read to the end -/
def whole {α : Type} (os : List Int) (f : List Int → Nat → Except Nat (α × Nat)) : Except Nat α :=
  match f os 0 with
  | .error e => .error e
  | .ok (x, k) => if k = os.length then .ok x else .error k
def srcVs : Str ⊕ Bool × Nat → List V
  | .inl y => [.str "new", .str y]
  | .inr (true, n) => [.str "fixed", .int n]
  | .inr (false, n) => [.str "entry", .int n]
def rSrc (K : PySem.W.Frag) : Str ⊕ Bool × Nat → V → Hp → Prop := fun s v H => ∃ a, v = .ref a ∧ SqT K H a (srcVs s)
def rIns (K : PySem.W.Frag) : Ins → V → Hp → Prop := fun i v H => InsV K H v i
def rAns (K : PySem.W.Frag) : Ans → V → Hp → Prop := fun i v H => AnsV K H v i
def sp_take (K : PySem.W.Frag) (C N : Addr) {α : Type} (f : List Int → Nat → Except Nat (α × Nat)) (R : α → V → Hp → Prop) : Sp := fun vs H Q E => ∃ (r a : Addr) (os : List Int) (k : Nat), vs = [.ref r] ∧ Rd K C H r a os k ∧ RdRes K C N r a os H Q E R (f os k)
def RdEnd {α : Type} (N : Addr) (H : Hp) (Q : VK) (E : XK) (R : α → V → Hp → Prop) : Except Nat α → Prop
  | .ok x => ∀ v H', Same H H' → R x v H' → Q v H'
  | .error e => ∀ (d : Addr) H', Same H H' → H' d = some (.xd [("place", .int (e : Nat))]) → E (.ref N) (some d) H'
def sp_read (K : PySem.W.Frag) (N M : Addr) {α : Type} (f : List Int → Nat → Except Nat (α × Nat)) (R : α → V → Hp → Prop) : Sp := fun vs H Q E => ∃ v, vs = [v] ∧ AnyH K H v
  (fun xs => if octV xs = true then ∃ os : List Int, xs = os.map V.int ∧ RdEnd N H Q E R (whole os f)
   else ∀ H', Same H H' → E (.ref M) none H') (∀ H', Same H H' → E (.ref M) none H')
def sp_is_ins (K : PySem.W.Frag) : Sp := fun vs H Q _ => ∃ (v : V) (i : Ins), vs = [v] ∧ InsV K H v i ∧ i.Ok ∧ ∀ H', Same H H' → Q (.bl true) H'
def sp_write_ins (K : PySem.W.Frag) : Sp := fun vs H Q _ => ∃ (v : V) (i : Ins), vs = [v] ∧ InsV K H v i ∧ i.Ok ∧ RetInts i.oct H Q
def sp_law_ins (K : PySem.W.Frag) : Sp := sp_write_ins K
def sp_is_ans (K : PySem.W.Frag) : Sp := fun vs H Q _ => ∃ (v : V) (i : Ans), vs = [v] ∧ AnsV K H v i ∧ i.Ok ∧ ∀ H', Same H H' → Q (.bl true) H'
def sp_write_ans (K : PySem.W.Frag) : Sp := fun vs H Q _ => ∃ (v : V) (i : Ans), vs = [v] ∧ AnsV K H v i ∧ i.Ok ∧ RetInts i.oct H Q
theorem txt_len20 {x : Str} (h : txt (.str x) 1 20 = true) : 1 ≤ x.length ∧ x.length ≤ 20 := by
  have h' : (decide ((1 : Int) ≤ x.length) && decide ((x.length : Int) ≤ 20) && x.cps.toList.all isChar) = true := h
  rw [Bool.and_eq_true, Bool.and_eq_true] at h'
  have h1 := of_decide_eq_true h'.1.1
  have h2 := of_decide_eq_true h'.1.2
  omega
theorem txt_20 {x : Str} (h : txt (.str x) 1 20 = true) : txt (.str x) 0 40 = true := by
  have := txt_len20 h
  exact txt_of (by omega) (by omega) (txt_all h)
def sp_source_octets : Sp := fun vs H Q _ => ∃ (c : Str) (v : V) (os : List Int), vs = [.str c, v] ∧
  ((∃ n : Nat, c = "fixed" ∧ v = .int n ∧ n ≤ 9999 ∧ os = numOct n 6 192) ∨ (∃ n : Nat, c = "entry" ∧ v = .int n ∧ n ≤ 9999 ∧ os = numOct n 6 128) ∨ ∃ y : Str, c = "new" ∧ v = .str y ∧ txt (.str y) 1 20 = true ∧ os = strOct y 5 64) ∧ RetInts os H Q
theorem RetInts.pre {ns : List Int} {H H1 : Hp} {Q : VK} (s : Same H H1) (h : RetInts ns H Q) : RetInts ns H1 Q := fun p H' hp s2 e => h p H' (s.free hp) (s.trans s2) e
theorem cat_go {a b : List Int} {H H3 : Hp} {Q : VK} {p1 p2 : Addr} (q : RetInts (a ++ b) H Q) (s : Same H H3) (g1 : H3 p1 = some (.lst (a.map V.int))) (g2 : H3 p2 = some (.lst (b.map V.int))) (hl : a.length + b.length ≤ 1000000) : rCat (.ref p1) (.ref p2) H3 Q := by
  refine ⟨p1, p2, _, _, rfl, rfl, g1, g2, by rw [List.length_map, List.length_map, sizeLine_eq]; omega, fun r hr => ?_⟩
  refine q r _ (s.free hr) (s.put (s.free hr)) ?_
  rw [upd_same, List.map_append]
theorem mark0 {b : Nat} (h1 : 1 ≤ b) (h8 : b ≤ 8) : MarkOk b 0 := by
  refine ⟨h1, h8, by decide, ?_⟩
  have : b = 1 ∨ b = 2 ∨ b = 3 ∨ b = 4 ∨ b = 5 ∨ b = 6 ∨ b = 7 ∨ b = 8 := by omega
  rcases this with h | h | h | h | h | h | h | h <;> subst h <;> decide +kernel
theorem strOct_len {x : Str} {b m : Nat} (h : x.length ≤ 40) : (strOct x b m).length ≤ 100 := by
  unfold strOct
  have := numOct_len x.length b m
  rw [List.length_append, List.length_map, ← str_len]
  omega
/-- from a call's result to what is made of it -/
theorem res_map {α β : Type} {K : PySem.W.Frag} {C N r a : Addr} {os : List Int} {H : Hp} {Q Q' : VK} {E : XK} {Ra : α → V → Hp → Prop} {Rb : β → V → Hp → Prop} {x : Except Nat (α × Nat)} {f : α × Nat → β × Nat}
    (q : RdRes K C N r a os H Q E Rb (x.map f)) (hf : ∀ z, (f z).2 = z.2) (h : ∀ z v H1, x = .ok z → But r H H1 → Rd K C H1 r a os z.2 → Ra z.1 v H1 → (∀ v' H2, Same H1 H2 → Rb (f z).1 v' H2 → Q v' H2) → Q' v H1) : RdRes K C N r a os H Q' E Ra x := by
  cases x with
  | error e => exact q
  | ok z =>
    intro v H1 b1 R1 hv
    refine h z v H1 rfl b1 R1 hv fun v' H2 s2 hv' => q v' H2 (b1.trans (But.of s2)) ?_ hv'
    rw [hf z]
    exact R1.keep s2
theorem oct_list {xs : List V} (h : octV xs = true) : ∃ os : List Int, xs = os.map V.int ∧ ∀ o ∈ os, 0 ≤ o ∧ o < 256 := by
  induction xs with
  | nil => exact ⟨[], rfl, fun o ho => nomatch ho⟩
  | cons x xs ih =>
    have h' : (btw x 0 255 && octV xs) = true := h
    rw [Bool.and_eq_true] at h'
    obtain ⟨os, e, ho⟩ := ih h'.2
    cases x with
    | int i =>
      have h2 : (decide ((0 : Int) ≤ i) && decide (i ≤ 255)) = true := h'.1
      rw [Bool.and_eq_true] at h2
      have h3 := of_decide_eq_true h2.1
      have h4 := of_decide_eq_true h2.2
      refine ⟨i :: os, by rw [e]; rfl, fun o hm => ?_⟩
      rcases List.mem_cons.mp hm with z | z
      · subst z; omega
      · exact ho o z
    | _ => exact nomatch (show false = true from h'.1)
theorem same_but {r : Addr} {H H1 H2 : Hp} (hr : H r = none) (s : Same H H1) (b : But r H1 H2) : Same H H2 := fun c o e => b c o (ne_of_none e hr) (s c o e)
end Fld
namespace Fld
open PySem PySem.Spec PyProof.Rows L2
def sp_law_draw_ins : Sp := fun vs H Q _ => ∃ (p c : Addr) (n : Nat), vs = [.ref p] ∧ Pen H p c n ∧ n ≤ 700000 ∧ ∀ (a : Addr) (i : Ins) H', H' a = some (.tup i.vs) → i.Ok → Drew p c H H' (n + 200) → Q (.ref a) H'
def sp_law_draw_ans : Sp := fun vs H Q _ => ∃ (p c : Addr) (n : Nat), vs = [.ref p] ∧ Pen H p c n ∧ n ≤ 700000 ∧ ∀ (a : Addr) (i : Ans) H', H' a = some (.tup i.vs) → i.Ok → Drew p c H H' (n + 200) → Q (.ref a) H'
/-! ### what is written is read again -/
theorem takeRest_oct (most : Int) : ∀ (r : Nat) (l : List Int) (k : Nat) (z w : Int), 1 ≤ w → 0 ≤ z → z + (r : Int) * w ≤ most → (0 < r ∨ w = 1) → takeRest most (restOct r ++ l) k z w = .ok (z + (r : Int) * w, k + (restOct r).length) := by
  intro r
  induction r using Nat.strongRecOn with
  | _ r ih =>
    intro l k z w hw hz hm h0
    by_cases h : r < 128
    · rw [restOct_lt h]
      show takeRest most ((r : Int) :: l) k z w = _
      rw [takeRest, if_neg (by omega), if_pos ⟨hm, by omega⟩]
      rfl
    · rw [restOct_ge h]
      show takeRest most ((128 + (r : Int) % 128) :: (restOct (r / 128) ++ l)) k z w = _
      have e0 : (128 + (r : Int) % 128 - 128) * w = ((r : Int) % 128) * w := by rw [show 128 + (r : Int) % 128 - 128 = (r : Int) % 128 by omega]
      have e1 : (r : Int) = ((r : Int) % 128) + 128 * ((r / 128 : Nat) : Int) := by omega
      have e2 : (r : Int) * w = ((r : Int) % 128) * w + ((r / 128 : Nat) : Int) * (w * 128) := by
        conv => lhs; rw [e1]
        rw [Int.add_mul, Int.mul_comm 128, Int.mul_assoc, Int.mul_comm 128 w]
      have p1 : 0 ≤ ((r : Int) % 128) * w := Int.mul_nonneg (by omega) (by omega)
      have q1 : 1 ≤ r / 128 := by omega
      have p2 : (w * 128) ≤ ((r / 128 : Nat) : Int) * (w * 128) := by
        have := Int.mul_le_mul_of_nonneg_right (show (1 : Int) ≤ ((r / 128 : Nat) : Int) by omega) (show 0 ≤ w * 128 by omega)
        omega
      rw [takeRest, if_pos (by omega), if_pos (by rw [e0]; omega), e0]
      rw [ih (r / 128) (by omega) l (k + 1) _ _ (by omega) (by omega) (by omega) (.inl (by omega))]
      rw [List.length_cons]
      refine congrArg Except.ok (Prod.ext ?_ ?_)
      · show z + ((r : Int) % 128) * w + ((r / 128 : Nat) : Int) * (w * 128) = z + (r : Int) * w
        rw [e2]; omega
      · show k + 1 + (restOct (r / 128)).length = k + ((restOct (r / 128)).length + 1)
        omega
theorem takeNum_oct (n b m : Nat) (least most : Int) (pre l : List Int) (h1 : least ≤ n) (h2 : (n : Int) ≤ most) (hl : 0 ≤ least) : least ≤ min ((2 ^ b - 1 : Nat) : Int) most →
    takeNum (pre ++ (numOct n b m ++ l)) b m least most pre.length = .ok ((n : Int), pre.length + (numOct n b m).length) := by
  intro hlm
  unfold takeNum numOct
  by_cases h : n < 2 ^ b - 1
  · rw [if_pos h]
    rw [List.getElem?_append_right (Nat.le_refl _), Nat.sub_self]
    show (if _ then _ else _) = _
    have e : ((m + n : Nat) : Int) - (m : Int) = (n : Int) := by omega
    dsimp only [List.cons_append, List.getElem?_cons_zero]
    rw [e, if_pos ⟨h1, by omega⟩, if_pos (by omega)]
    rfl
  · rw [if_neg h]
    rw [List.getElem?_append_right (Nat.le_refl _), Nat.sub_self]
    dsimp only [List.cons_append, List.getElem?_cons_zero]
    have e : ((m + (2 ^ b - 1) : Nat) : Int) - (m : Int) = ((2 ^ b - 1 : Nat) : Int) := by omega
    rw [e, if_pos ⟨by omega, by omega⟩, if_neg (by omega)]
    have hd : (pre ++ ((m + (2 ^ b - 1) : Nat) : Int) :: (restOct (n - (2 ^ b - 1)) ++ l)).drop (pre.length + 1) = restOct (n - (2 ^ b - 1)) ++ l := by
      rw [List.drop_append]
      simp
    rw [hd, takeRest_oct _ _ _ _ _ _ (by decide) (by decide) (by omega) (.inr rfl)]
    have hpn := pow_pos2 b
    refine congrArg Except.ok (Prod.ext ?_ ?_)
    · show ((2 ^ b - 1 : Nat) : Int) + (0 + ((n - (2 ^ b - 1) : Nat) : Int) * 1) = (n : Int)
      omega
    · show pre.length + 1 + (restOct (n - (2 ^ b - 1))).length = pre.length + ((restOct (n - (2 ^ b - 1))).length + 1)
      omega
theorem takeChars_oct : ∀ (cs : List Nat) (l : List Int) (k : Nat), cs.all isChar = true → takeChars cs.length ((cs.map fun (c : Nat) => (c : Int)) ++ l) k = .ok (cs, k + cs.length)
  | [], l, k, _ => rfl
  | c :: cs, l, k, h => by
    rw [List.all_cons, Bool.and_eq_true] at h
    show takeChars (cs.length + 1) ((c : Int) :: (cs.map (fun (c : Nat) => (c : Int)) ++ l)) k = _
    rw [takeChars, Int.toNat_natCast, if_pos h.1, takeChars_oct cs l (k + 1) h.2]
    refine congrArg Except.ok (Prod.ext rfl ?_)
    show k + 1 + cs.length = k + (cs.length + 1)
    omega
theorem takeStr_oct (x : Str) (b m : Nat) (least most : Int) (pre l : List Int) (hx : x.cps.toList.all isChar = true) (h1 : least ≤ x.length) (h2 : (x.length : Int) ≤ most) (hl : 0 ≤ least) (hlm : least ≤ min ((2 ^ b - 1 : Nat) : Int) most) :
    takeStr (pre ++ (strOct x b m ++ l)) b m least most pre.length = .ok (x, pre.length + (strOct x b m).length) := by
  unfold takeStr strOct
  rw [List.append_assoc, takeNum_oct x.length b m least most pre _ h1 h2 hl hlm]
  dsimp only
  rw [Int.toNat_natCast]
  have hd : (pre ++ (numOct x.length b m ++ (x.cps.toList.map (fun (c : Nat) => (c : Int)) ++ l))).drop (pre.length + (numOct x.length b m).length) = x.cps.toList.map (fun (c : Nat) => (c : Int)) ++ l := by
    rw [← List.append_assoc, List.drop_append, ← List.length_append]
    simp
  rw [hd, str_len, takeChars_oct _ _ _ hx]
  refine congrArg Except.ok (Prod.ext rfl ?_)
  show pre.length + (numOct x.length b m).length + x.cps.toList.length = pre.length + (numOct x.length b m ++ x.cps.toList.map fun (c : Nat) => (c : Int)).length
  rw [List.length_append, List.length_map]
  omega
theorem numOct_head (n b m : Nat) : ∃ (o : Int) (l : List Int), numOct n b m = o :: l ∧ (m : Int) ≤ o ∧ o ≤ m + ((2 ^ b - 1 : Nat) : Int) := by
  unfold numOct
  have := pow_pos2 b
  by_cases h : n < 2 ^ b - 1
  · rw [if_pos h]; exact ⟨_, _, rfl, by omega, by omega⟩
  · rw [if_neg h]; exact ⟨_, _, rfl, by omega, by omega⟩
theorem strOct_head (x : Str) (b m : Nat) : ∃ (o : Int) (l : List Int), strOct x b m = o :: l ∧ (m : Int) ≤ o ∧ o ≤ m + ((2 ^ b - 1 : Nat) : Int) := by
  obtain ⟨o, l, e, h⟩ := numOct_head x.length b m
  refine ⟨o, l ++ x.cps.toList.map fun (c : Nat) => (c : Int), ?_, h⟩
  unfold strOct
  rw [e]
  rfl
theorem takeNum0 (n b m : Nat) (least most : Int) (l : List Int) (h1 : least ≤ n) (h2 : (n : Int) ≤ most) (hl : 0 ≤ least) (hlm : least ≤ min ((2 ^ b - 1 : Nat) : Int) most) : takeNum (numOct n b m ++ l) b m least most 0 = .ok ((n : Int), (numOct n b m).length) := by
  have := takeNum_oct n b m least most [] l h1 h2 hl hlm
  rw [List.nil_append, List.length_nil, Nat.zero_add] at this
  exact this
theorem takeStr0 (x : Str) (b m : Nat) (least most : Int) (l : List Int) (hx : x.cps.toList.all isChar = true) (h1 : least ≤ x.length) (h2 : (x.length : Int) ≤ most) (hl : 0 ≤ least) (hlm : least ≤ min ((2 ^ b - 1 : Nat) : Int) most) : takeStr (strOct x b m ++ l) b m least most 0 = .ok (x, (strOct x b m).length) := by
  have := takeStr_oct x b m least most [] l hx h1 h2 hl hlm
  rw [List.nil_append, List.length_nil, Nat.zero_add] at this
  exact this
theorem takeStrE (x : Str) (pre : List Int) (hx : txt (.str x) 0 40 = true) : takeStr (pre ++ strOct x 7 0) 7 0 0 40 pre.length = .ok (x, (pre ++ strOct x 7 0).length) := by
  have h40 := txt_len hx
  have := takeStr_oct x 7 0 0 40 pre [] (txt_all hx) (by omega) (by omega) (by decide) (by decide)
  rw [List.append_nil] at this
  rw [this, List.length_append]
theorem src_fixed (n : Nat) (l : List Int) (h : n ≤ 9999) : takeSrc (numOct n 6 192 ++ l) 0 = .ok (.inr (true, n), (numOct n 6 192).length) := by
  obtain ⟨o, l', e, h1, h2⟩ := numOct_head n 6 192
  have h0 : (numOct n 6 192 ++ l)[0]? = some o := by rw [e]; rfl
  unfold takeSrc
  rw [h0]
  dsimp only
  rw [if_pos (by omega), takeNum0 n 6 192 0 9999 l (by omega) (by omega) (by decide) (by decide)]
  show Except.ok (Sum.inr (true, ((n : Nat) : Int).toNat), _) = _
  rw [Int.toNat_natCast]
theorem src_entry (n : Nat) (l : List Int) (h : n ≤ 9999) : takeSrc (numOct n 6 128 ++ l) 0 = .ok (.inr (false, n), (numOct n 6 128).length) := by
  obtain ⟨o, l', e, h1, h2⟩ := numOct_head n 6 128
  have h3 : ((2 ^ 6 - 1 : Nat) : Int) = 63 := rfl
  have h0 : (numOct n 6 128 ++ l)[0]? = some o := by rw [e]; rfl
  unfold takeSrc
  rw [h0]
  dsimp only
  rw [if_neg (by omega), if_pos (by omega), takeNum0 n 6 128 0 9999 l (by omega) (by omega) (by decide) (by decide)]
  show Except.ok (Sum.inr (false, ((n : Nat) : Int).toNat), _) = _
  rw [Int.toNat_natCast]
theorem src_new (y : Str) (l : List Int) (h : txt (.str y) 1 20 = true) : takeSrc (strOct y 5 64 ++ l) 0 = .ok (.inl y, (strOct y 5 64).length) := by
  obtain ⟨o, l', e, h1, h2⟩ := strOct_head y 5 64
  have h3 : ((2 ^ 5 - 1 : Nat) : Int) = 31 := rfl
  have h20 := txt_len20 h
  have h0 : (strOct y 5 64 ++ l)[0]? = some o := by rw [e]; rfl
  unfold takeSrc
  rw [h0]
  dsimp only
  rw [if_neg (by omega), if_neg (by omega), takeStr0 y 5 64 1 20 l (txt_all h) (by omega) (by omega) (by decide) (by decide)]
  rfl
theorem ins_src (os : List Int) (k : Nat) (s : Str ⊕ Bool × Nat) (x : Str) (n : Nat) (o : Int) (h0 : os[0]? = some o) (ho : 64 ≤ o) (h1 : takeSrc os 0 = .ok (s, k)) (h2 : takeStr os 7 0 0 40 k = .ok (x, n)) : takeIns os 0 = .ok (srcIns x s, n) := by
  unfold takeIns
  rw [h0]
  dsimp only
  rw [if_neg (by omega), if_neg (by omega), h1]
  dsimp only
  rw [h2]
  rfl
theorem whole_of {α : Type} {os : List Int} {f : List Int → Nat → Except Nat (α × Nat)} {x : α} (h : f os 0 = .ok (x, os.length)) : whole os f = .ok x := by
  unfold whole
  rw [h]
  exact if_pos rfl
theorem whole_ins (i : Ins) (ok : i.Ok) : whole i.oct takeIns = .ok i := by
  refine whole_of ?_
  cases i with
  | again n =>
    have hn : n ≤ 9999 := ok
    obtain ⟨o, l', e, h1, h2⟩ := numOct_head n 5 0
    have h3 : ((2 ^ 5 - 1 : Nat) : Int) = 31 := rfl
    have h0 : (numOct n 5 0)[0]? = some o := by rw [e]; rfl
    have ht := takeNum0 n 5 0 0 9999 [] (by omega) (by omega) (by decide) (by decide)
    rw [List.append_nil] at ht
    show takeIns (numOct n 5 0) 0 = _
    unfold takeIns
    rw [h0]
    dsimp only
    rw [if_pos (by omega), ht]
    show Except.ok (Ins.again ((n : Nat) : Int).toNat, _) = _
    rw [Int.toNat_natCast]
    rfl
  | limit n =>
    have hn : n ≤ 9999 := ok
    obtain ⟨o, l', e, h1, h2⟩ := numOct_head n 5 32
    have h3 : ((2 ^ 5 - 1 : Nat) : Int) = 31 := rfl
    have h0 : (numOct n 5 32)[0]? = some o := by rw [e]; rfl
    have ht := takeNum0 n 5 32 0 9999 [] (by omega) (by omega) (by decide) (by decide)
    rw [List.append_nil] at ht
    show takeIns (numOct n 5 32) 0 = _
    unfold takeIns
    rw [h0]
    dsimp only
    rw [if_neg (by omega), if_pos (by omega), ht]
    show Except.ok (Ins.limit ((n : Nat) : Int).toNat, _) = _
    rw [Int.toNat_natCast]
    rfl
  | fixed n x =>
    obtain ⟨o, l', e, h1, h2⟩ := numOct_head n 6 192
    exact ins_src _ _ (.inr (true, n)) x _ o (by show (numOct n 6 192 ++ strOct x 7 0)[0]? = _; rw [e]; rfl) (by omega) (src_fixed n _ ok.1) (takeStrE x _ ok.2)
  | entry n x =>
    obtain ⟨o, l', e, h1, h2⟩ := numOct_head n 6 128
    exact ins_src _ _ (.inr (false, n)) x _ o (by show (numOct n 6 128 ++ strOct x 7 0)[0]? = _; rw [e]; rfl) (by omega) (src_entry n _ ok.1) (takeStrE x _ ok.2)
  | new y x =>
    obtain ⟨o, l', e, h1, h2⟩ := strOct_head y 5 64
    exact ins_src _ _ (.inl y) x _ o (by show (strOct y 5 64 ++ strOct x 7 0)[0]? = _; rw [e]; rfl) (by omega) (src_new y _ ok.1) (takeStrE x _ ok.2)
theorem whole_ans (i : Ans) (ok : i.Ok) : whole i.oct takeAns = .ok i := by
  refine whole_of ?_
  have h63 : ((2 ^ 6 - 1 : Nat) : Int) = 63 := rfl
  have h127 : ((2 ^ 7 - 1 : Nat) : Int) = 127 := rfl
  cases i with
  | done n =>
    have hn : n ≤ 20 := ok
    obtain ⟨o, l', e, h1, h2⟩ := numOct_head n 7 128
    have h0 : (numOct n 7 128)[0]? = some o := by rw [e]; rfl
    have ht := takeNum0 n 7 128 0 20 [] (by omega) (by omega) (by decide) (by decide)
    rw [List.append_nil] at ht
    show takeAns (numOct n 7 128) 0 = _
    unfold takeAns
    rw [h0]
    dsimp only
    rw [if_pos (by omega), ht]
    show Except.ok (Ans.done ((n : Nat) : Int).toNat, _) = _
    rw [Int.toNat_natCast]
    rfl
  | cancelled n =>
    have hn : n ≤ 20 := ok
    obtain ⟨o, l', e, h1, h2⟩ := numOct_head n 6 64
    have h0 : (numOct n 6 64)[0]? = some o := by rw [e]; rfl
    have ht := takeNum0 n 6 64 0 20 [] (by omega) (by omega) (by decide) (by decide)
    rw [List.append_nil] at ht
    show takeAns (numOct n 6 64) 0 = _
    unfold takeAns
    rw [h0]
    dsimp only
    rw [if_neg (by omega), if_pos (by omega), ht]
    show Except.ok (Ans.cancelled ((n : Nat) : Int).toNat, _) = _
    rw [Int.toNat_natCast]
    rfl
  | received n =>
    have hn := ok.1
    have hn2 := ok.2
    obtain ⟨o, l', e, h1, h2⟩ := numOct_head n 6 0
    have h0 : (numOct n 6 0)[0]? = some o := by rw [e]; rfl
    have ht := takeNum0 n 6 0 1 9999 [] (by omega) (by omega) (by decide) (by decide)
    rw [List.append_nil] at ht
    show takeAns (numOct n 6 0) 0 = _
    unfold takeAns
    rw [h0]
    dsimp only
    rw [if_neg (by omega), if_neg (by omega), ht]
    show Except.ok (Ans.received ((n : Nat) : Int).toNat, _) = _
    rw [Int.toNat_natCast]
    rfl
end Fld
/-! instructions and answers as data -/
namespace Fld
open PySem PySem.Spec PyProof.Rows L2
def Ins.dat : Ins → PyData
  | .again n => .tuple [.str "again", .int n]
  | .limit n => .tuple [.str "limit", .int n]
  | .fixed n x => .tuple [.str "fixed", .int n, .str x]
  | .entry n x => .tuple [.str "entry", .int n, .str x]
  | .new y x => .tuple [.str "new", .str y, .str x]
def Ans.dat : Ans → PyData
  | .done n => .tuple [.str "done", .int n]
  | .cancelled n => .tuple [.str "cancelled", .int n]
  | .received n => .tuple [.str "received", .int n]
theorem dp_ins {K : PySem.W.Frag} {H : Hp} {a : Addr} {i : Ins} (h : SqT K H a i.vs) : Dp K H (.ref a) i.dat := by
  cases i with
  | new y x => exact .tup h (.cons (.str _) (.cons (.str _) (.cons (.str _) .nil)))
  | fixed n x => exact .tup h (.cons (.str _) (.cons (.int _) (.cons (.str _) .nil)))
  | entry n x => exact .tup h (.cons (.str _) (.cons (.int _) (.cons (.str _) .nil)))
  | _ => exact .tup h (.cons (.str _) (.cons (.int _) .nil))
theorem dp_ans {K : PySem.W.Frag} {H : Hp} {a : Addr} {i : Ans} (h : SqT K H a i.vs) : Dp K H (.ref a) i.dat := by
  cases i <;> exact .tup h (.cons (.str _) (.cons (.int _) .nil))
theorem dle_flat {n : Nat} {ds : List PyData} (h : ds.length ≤ 100000) (hd : ∀ d ∈ ds, DLe n d) : DLe (n + 1) (.tuple ds) := ⟨h, hd⟩
theorem dle_str (n : Nat) (x : Str) : DLe n (.str x) := by cases n <;> exact True.intro
theorem dle_int (n : Nat) (i : Int) : DLe n (.int i) := by cases n <;> exact True.intro
theorem dle_2 {n : Nat} {a b : PyData} (ha : DLe n a) (hb : DLe n b) : DLe (n + 1) (.tuple [a, b]) := ⟨by show 2 ≤ 100000; decide, fun d hd => by
  rcases List.mem_cons.mp hd with h | h
  · rw [h]; exact ha
  · rw [List.mem_singleton.mp h]; exact hb⟩
theorem dle_3 {n : Nat} {a b c : PyData} (ha : DLe n a) (hb : DLe n b) (hc : DLe n c) : DLe (n + 1) (.tuple [a, b, c]) := ⟨by show 3 ≤ 100000; decide, fun d hd => by
  rcases List.mem_cons.mp hd with h | h
  · rw [h]; exact ha
  rcases List.mem_cons.mp h with h | h
  · rw [h]; exact hb
  · rw [List.mem_singleton.mp h]; exact hc⟩
theorem dleL_2 {n : Nat} {a b : PyData} (ha : DLe n a) (hb : DLe n b) : DLe (n + 1) (.list [a, b]) := ⟨by show 2 ≤ 100000; decide, fun d hd => by
  rcases List.mem_cons.mp hd with h | h
  · rw [h]; exact ha
  · rw [List.mem_singleton.mp h]; exact hb⟩
theorem dle_ins (n : Nat) (i : Ins) : DLe (n + 1) i.dat := by
  cases i with
  | again k => exact dle_2 (dle_str _ _) (dle_int _ _)
  | limit k => exact dle_2 (dle_str _ _) (dle_int _ _)
  | fixed k x => exact dle_3 (dle_str _ _) (dle_int _ _) (dle_str _ _)
  | entry k x => exact dle_3 (dle_str _ _) (dle_int _ _) (dle_str _ _)
  | new y x => exact dle_3 (dle_str _ _) (dle_str _ _) (dle_str _ _)
theorem dle_ans (n : Nat) (i : Ans) : DLe (n + 1) i.dat := by
  cases i <;> exact dle_2 (dle_str _ _) (dle_int _ _)
theorem isChar_lt {c : Nat} (h : isChar c = true) : c < 4294967296 := by
  have h1 : (charCodes.all fun c => decide (c < 4294967296)) = true := by decide
  exact of_decide_eq_true (List.all_eq_true.mp h1 c (List.contains_iff_mem.mp h))
theorem okD_str {x : Str} (h : x.cps.toList.all isChar = true) : okD (.str x) = true := by
  show (x.cps.toList.all fun c => decide (c < 4294967296)) = true
  exact List.all_eq_true.mpr fun c hc => decide_eq_true (isChar_lt (List.all_eq_true.mp h c hc))
theorem okD_nat {n : Nat} (h : n ≤ 9999) : okD (.int (n : Nat)) = true := by
  have h3 : (1000001 : Nat) < 2 ^ 1000 := by decide +kernel
  refine decide_eq_true ?_
  rw [Int.natAbs_natCast]
  omega
theorem okD_ins {i : Ins} (ok : i.Ok) : okD i.dat = true ∧ wD i.dat ≤ 5000 := by
  cases i with
  | again n =>
    refine ⟨?_, by show 10 * 5 + 2 + 2 + (1010 + 2 + 0) + 4 ≤ 5000; decide⟩
    show (okD (.str "again") && (okD (.int (n : Nat)) && true)) = true
    rw [okD_nat ok]; decide +kernel
  | limit n =>
    refine ⟨?_, by show 10 * 5 + 2 + 2 + (1010 + 2 + 0) + 4 ≤ 5000; decide⟩
    show (okD (.str "limit") && (okD (.int (n : Nat)) && true)) = true
    rw [okD_nat ok]; decide +kernel
  | fixed n x =>
    have hx := txt_len ok.2
    refine ⟨?_, by show 10 * 5 + 2 + 2 + (1010 + 2 + (10 * x.length + 2 + 2 + 0)) + 4 ≤ 5000; omega⟩
    show (okD (.str "fixed") && (okD (.int (n : Nat)) && (okD (.str x) && true))) = true
    rw [okD_nat ok.1, okD_str (txt_all ok.2)]; decide +kernel
  | entry n x =>
    have hx := txt_len ok.2
    refine ⟨?_, by show 10 * 5 + 2 + 2 + (1010 + 2 + (10 * x.length + 2 + 2 + 0)) + 4 ≤ 5000; omega⟩
    show (okD (.str "entry") && (okD (.int (n : Nat)) && (okD (.str x) && true))) = true
    rw [okD_nat ok.1, okD_str (txt_all ok.2)]; decide +kernel
  | new y x =>
    have hx := txt_len ok.2
    have hy := txt_len20 ok.1
    refine ⟨?_, by show 10 * 3 + 2 + 2 + (10 * y.length + 2 + 2 + (10 * x.length + 2 + 2 + 0)) + 4 ≤ 5000; omega⟩
    show (okD (.str "new") && (okD (.str y) && (okD (.str x) && true))) = true
    rw [okD_str (txt_all ok.1), okD_str (txt_all ok.2)]; decide +kernel
theorem okD_ans {i : Ans} (ok : i.Ok) : okD i.dat = true ∧ wD i.dat ≤ 5000 := by
  cases i with
  | done n =>
    have h : n ≤ 20 := ok
    refine ⟨?_, by show 10 * 4 + 2 + 2 + (1010 + 2 + 0) + 4 ≤ 5000; decide⟩
    show (okD (.str "done") && (okD (.int (n : Nat)) && true)) = true
    rw [okD_nat (by omega)]; decide +kernel
  | cancelled n =>
    have h : n ≤ 20 := ok
    refine ⟨?_, by show 10 * 9 + 2 + 2 + (1010 + 2 + 0) + 4 ≤ 5000; decide⟩
    show (okD (.str "cancelled") && (okD (.int (n : Nat)) && true)) = true
    rw [okD_nat (by omega)]; decide +kernel
  | received n =>
    refine ⟨?_, by show 10 * 8 + 2 + 2 + (1010 + 2 + 0) + 4 ≤ 5000; decide⟩
    show (okD (.str "received") && (okD (.int (n : Nat)) && true)) = true
    rw [okD_nat ok.2]; decide +kernel
theorem ins_oct_len {i : Ins} (ok : i.Ok) : i.oct.length ≤ 100000 := by
  cases i with
  | again n => have h : n ≤ 9999 := ok; have := numOct_len n 5 0; show (numOct n 5 0).length ≤ _; omega
  | limit n => have h : n ≤ 9999 := ok; have := numOct_len n 5 32; show (numOct n 5 32).length ≤ _; omega
  | fixed n x => have h := ok.1; have := numOct_len n 6 192; have := strOct_len (b := 7) (m := 0) (txt_len ok.2); show (numOct n 6 192 ++ strOct x 7 0).length ≤ _; rw [List.length_append]; omega
  | entry n x => have h := ok.1; have := numOct_len n 6 128; have := strOct_len (b := 7) (m := 0) (txt_len ok.2); show (numOct n 6 128 ++ strOct x 7 0).length ≤ _; rw [List.length_append]; omega
  | new y x => have := strOct_len (b := 5) (m := 64) (txt_len (txt_20 ok.1)); have := strOct_len (b := 7) (m := 0) (txt_len ok.2); show (strOct y 5 64 ++ strOct x 7 0).length ≤ _; rw [List.length_append]; omega
theorem ans_oct_len {i : Ans} (ok : i.Ok) : i.oct.length ≤ 100000 := by
  cases i with
  | done n => have h : n ≤ 20 := ok; have := numOct_len n 7 128; show (numOct n 7 128).length ≤ _; omega
  | cancelled n => have h : n ≤ 20 := ok; have := numOct_len n 6 64; show (numOct n 6 64).length ≤ _; omega
  | received n => have h := ok.2; have := numOct_len n 6 0; show (numOct n 6 0).length ≤ _; omega
/-! ### all octets are octets -/
theorem restOct_oct (r : Nat) : ∀ o ∈ restOct r, 0 ≤ o ∧ o < 256 := by
  induction r using Nat.strongRecOn with
  | _ r ih =>
    intro o ho
    by_cases h : r < 128
    · rw [restOct_lt h] at ho
      have := List.mem_singleton.mp ho
      omega
    · rw [restOct_ge h] at ho
      rcases List.mem_cons.mp ho with z | z
      · omega
      · exact ih (r / 128) (by omega) o z
theorem numOct_oct {n b m : Nat} (h : m + (2 ^ b - 1) ≤ 255) : ∀ o ∈ numOct n b m, 0 ≤ o ∧ o < 256 := by
  intro o ho
  unfold numOct at ho
  by_cases h1 : n < 2 ^ b - 1
  · rw [if_pos h1] at ho
    have := List.mem_singleton.mp ho
    omega
  · rw [if_neg h1] at ho
    rcases List.mem_cons.mp ho with z | z
    · omega
    · exact restOct_oct _ o z
theorem strOct_oct {x : Str} {b m : Nat} (h : m + (2 ^ b - 1) ≤ 255) (hx : x.cps.toList.all isChar = true) : ∀ o ∈ strOct x b m, 0 ≤ o ∧ o < 256 := by
  intro o ho
  rcases List.mem_append.mp ho with z | z
  · exact numOct_oct h o z
  · obtain ⟨c, hc, rfl⟩ := List.mem_map.mp z
    have h1 : (charCodes.all fun c => decide (c < 256)) = true := by decide
    have := of_decide_eq_true (List.all_eq_true.mp h1 c (List.contains_iff_mem.mp (List.all_eq_true.mp hx c hc)))
    omega
theorem app_oct {a b : List Int} (h1 : ∀ o ∈ a, 0 ≤ o ∧ o < 256) (h2 : ∀ o ∈ b, 0 ≤ o ∧ o < 256) : ∀ o ∈ a ++ b, 0 ≤ o ∧ o < 256 := fun o ho => (List.mem_append.mp ho).elim (h1 o) (h2 o)
theorem ins_oct {i : Ins} (ok : i.Ok) : ∀ o ∈ i.oct, 0 ≤ o ∧ o < 256 := by
  cases i with
  | again n => exact numOct_oct (by decide)
  | limit n => exact numOct_oct (by decide)
  | fixed n x => exact app_oct (numOct_oct (by decide)) (strOct_oct (by decide) (txt_all ok.2))
  | entry n x => exact app_oct (numOct_oct (by decide)) (strOct_oct (by decide) (txt_all ok.2))
  | new y x => exact app_oct (strOct_oct (by decide) (txt_all ok.1)) (strOct_oct (by decide) (txt_all ok.2))
theorem ans_oct {i : Ans} (ok : i.Ok) : ∀ o ∈ i.oct, 0 ≤ o ∧ o < 256 := by
  cases i with
  | _ => exact numOct_oct (by decide)
theorem octV_of {os : List Int} (h : ∀ o ∈ os, 0 ≤ o ∧ o < 256) : octV (os.map V.int) = true := by
  refine List.all_eq_true.mpr fun v hv => ?_
  obtain ⟨o, ho, rfl⟩ := List.mem_map.mp hv
  have := h o ho
  exact btw_t (by omega) (by omega)
theorem kinds_ints {K : PySem.W.Frag} {H : Hp} (os : List Int) : ∀ x ∈ os.map V.int, ∃ t, Kind K H x t := fun x hx => by
  obtain ⟨o, _, rfl⟩ := List.mem_map.mp hx
  exact ⟨"int", .int o⟩
theorem read_in {α : Type} {N M : Addr} {f : List Int → Nat → Except Nat (α × Nat)} {R : α → V → Hp → Prop} {H : Hp} {Q : VK} {E : XK} {os : List Int} {x : α} (ho : ∀ o ∈ os, 0 ≤ o ∧ o < 256) (hw : whole os f = .ok x)
    (q : ∀ v H', Same H H' → R x v H' → Q v H') : if octV (os.map V.int) = true then ∃ os' : List Int, os.map V.int = os'.map V.int ∧ RdEnd N H Q E R (whole os' f) else ∀ H', Same H H' → E (.ref M) none H' := by
  rw [if_pos (octV_of ho)]
  refine ⟨os, rfl, ?_⟩
  rw [hw]
  exact q
end Fld
/-! Lines and blocks: their values, their octets, what is read of octets. -/
namespace Fld
open PySem PySem.Spec PyProof.Rows L2
inductive Ln where
  | fix1 (n : Nat) | fix2 (n : Nat) (x : Str) | ent1 (n : Nat) | ent2 (n : Nat) (x : Str) | out (y x : Str)
def Ln.vs : Ln → List V
  | .fix1 n => [.str "fixed", .int n]
  | .fix2 n x => [.str "fixed", .int n, .str x]
  | .ent1 n => [.str "entry", .int n]
  | .ent2 n x => [.str "entry", .int n, .str x]
  | .out y x => [.str "out", .str y, .str x]
def Ln.Ok (req : Nat) : Ln → Prop
  | .fix1 n => n ≤ 9999
  | .fix2 n x => n ≤ 9999 ∧ txt (.str x) 0 40 = true
  | .ent1 n => n < req
  | .ent2 n x => n < req ∧ txt (.str x) 0 40 = true
  | .out y x => txt (.str y) 1 20 = true ∧ txt (.str x) 0 40 = true
def wholeOct (base n : Nat) : List Int := if n < base then numOct (base - n - 1) 3 128 else numOct (n - base) 2 16
def namedOct (base n : Nat) : List Int := if n < base then numOct (base - n - 1) 3 64 else numOct (n - base) 2 0
def Ln.oct (base : Nat) : Ln → List Int
  | .fix1 n => numOct n 6 192
  | .fix2 n x => numOct n 4 96 ++ strOct x 7 0
  | .ent1 n => wholeOct base n
  | .ent2 n x => namedOct base n ++ strOct x 7 0
  | .out y x => strOct y 4 32 ++ strOct x 7 0
def LnV (K : PySem.W.Frag) (H : Hp) (v : V) (l : Ln) : Prop := ∃ a, v = .ref a ∧ SqT K H a l.vs
structure Blk where
  req : Nat
  base : Nat
  ls : List Ln
structure Blk.Ok (b : Blk) : Prop where
  req_ : b.req ≤ 9999
  base_ : b.base ≤ b.req
  len_ : b.ls.length ≤ 16
  lns_ : ∀ l : Ln, l ∈ b.ls → l.Ok b.req
def lnsOct (base : Nat) (ls : List Ln) : List Int := (ls.map (Ln.oct base)).flatten
def Blk.oct (b : Blk) : List Int := (numOct b.req 8 0 ++ numOct (b.req - b.base) 8 0) ++ lnsOct b.base b.ls
inductive LnsV (K : PySem.W.Frag) (H : Hp) : List V → List Ln → Prop
  | nil : LnsV K H [] []
  | cons {x : V} {xs : List V} {l : Ln} {ls : List Ln} : LnV K H x l → LnsV K H xs ls → LnsV K H (x :: xs) (l :: ls)
def BlkV (K : PySem.W.Frag) (H : Hp) (v : V) (b : Blk) : Prop := ∃ (a t : Addr) (xs : List V), v = .ref a ∧ SqT K H a [.int b.req, .int b.base, .ref t] ∧ SqT K H t xs ∧ LnsV K H xs b.ls
theorem LnV.keep {K : PySem.W.Frag} {H H' : Hp} {v : V} {l : Ln} (s : Same H H') (h : LnV K H v l) : LnV K H' v l := let ⟨a, e, h⟩ := h; ⟨a, e, s.tup h⟩
theorem LnsV.keep {K : PySem.W.Frag} {H H' : Hp} (s : Same H H') : ∀ {xs : List V} {ls : List Ln}, LnsV K H xs ls → LnsV K H' xs ls
  | _, _, .nil => .nil
  | _, _, .cons h t => .cons (h.keep s) (t.keep s)
theorem BlkV.keep {K : PySem.W.Frag} {H H' : Hp} {v : V} {b : Blk} (s : Same H H') (h : BlkV K H v b) : BlkV K H' v b := let ⟨a, t, xs, e, h1, h2, h3⟩ := h; ⟨a, t, xs, e, s.tup h1, s.tup h2, h3.keep s⟩
theorem LnsV.len {K : PySem.W.Frag} {H : Hp} : ∀ {xs : List V} {ls : List Ln}, LnsV K H xs ls → xs.length = ls.length
  | _, _, .nil => rfl
  | _, _, .cons _ t => by rw [List.length_cons, List.length_cons, t.len]
theorem LnsV.at_ {K : PySem.W.Frag} {H : Hp} : ∀ {xs : List V} {ls : List Ln} {i : Nat} {x : V}, LnsV K H xs ls → xs[i]? = some x → ∃ l, ls[i]? = some l ∧ LnV K H x l
  | _, _, _, _, .nil, e => by simp at e
  | _, _, 0, _, .cons h _, e => by simp at e; subst e; exact ⟨_, rfl, h⟩
  | _, _, i + 1, x, .cons _ t, e => by
    obtain ⟨l, h1, h2⟩ := t.at_ (i := i) (x := x) (by simpa using e)
    exact ⟨l, by simpa using h1, h2⟩
def sp_is_line (K : PySem.W.Frag) : Sp := fun vs H Q _ => ∃ (v : V) (l : Ln) (r : Nat), vs = [v, .int r] ∧ LnV K H v l ∧ l.Ok r ∧ ∀ H', Same H H' → Q (.bl true) H'
def sp_is_block (K : PySem.W.Frag) : Sp := fun vs H Q _ => ∃ (v : V) (b : Blk), vs = [v] ∧ BlkV K H v b ∧ b.Ok ∧ ∀ H', Same H H' → Q (.bl true) H'
def sp_line_octets (K : PySem.W.Frag) : Sp := fun vs H Q _ => ∃ (v : V) (l : Ln) (base r : Nat), vs = [v, .int base] ∧ LnV K H v l ∧ l.Ok r ∧ r ≤ 9999 ∧ base ≤ r ∧ RetInts (l.oct base) H Q
def sp_write_block (K : PySem.W.Frag) : Sp := fun vs H Q _ => ∃ (v : V) (b : Blk), vs = [v] ∧ BlkV K H v b ∧ b.Ok ∧ RetInts b.oct H Q
def sp_whole_octets (named : Bool) : Sp := fun vs H Q _ => ∃ (c : Str) (n base : Nat), vs = [.str c, .int n, .int base] ∧ n ≤ 9999 ∧ base ≤ 9999 ∧
  ((c = "fixed" ∧ RetInts (if named then numOct n 4 96 else numOct n 6 192) H Q) ∨ (c = "entry" ∧ RetInts (if named then namedOct base n else wholeOct base n) H Q))
theorem wholeOct_len {base n : Nat} (h1 : base ≤ 9999) (h2 : n ≤ 9999) : (wholeOct base n).length ≤ 10001 := by
  unfold wholeOct
  by_cases h : n < base
  · rw [if_pos h]; have := numOct_len (base - n - 1) 3 128; omega
  · rw [if_neg h]; have := numOct_len (n - base) 2 16; omega
theorem namedOct_len {base n : Nat} (h1 : base ≤ 9999) (h2 : n ≤ 9999) : (namedOct base n).length ≤ 10001 := by
  unfold namedOct
  by_cases h : n < base
  · rw [if_pos h]; have := numOct_len (base - n - 1) 3 64; omega
  · rw [if_neg h]; have := numOct_len (n - base) 2 0; omega
theorem ln_len {base r : Nat} {l : Ln} (ok : l.Ok r) (hr : r ≤ 9999) (hb : base ≤ r) : (l.oct base).length ≤ 10101 := by
  cases l with
  | fix1 n => have h : n ≤ 9999 := ok; have := numOct_len n 6 192; show (numOct n 6 192).length ≤ _; omega
  | fix2 n x => have h := ok.1; have := numOct_len n 4 96; have := strOct_len (b := 7) (m := 0) (txt_len ok.2); show (numOct n 4 96 ++ strOct x 7 0).length ≤ _; rw [List.length_append]; omega
  | ent1 n => have h : n < r := ok; have := wholeOct_len (base := base) (n := n) (by omega) (by omega); show (wholeOct base n).length ≤ _; omega
  | ent2 n x => have h := ok.1; have := namedOct_len (base := base) (n := n) (by omega) (by omega); have := strOct_len (b := 7) (m := 0) (txt_len ok.2); show (namedOct base n ++ strOct x 7 0).length ≤ _; rw [List.length_append]; omega
  | out y x => have := strOct_len (b := 4) (m := 32) (txt_len (txt_20 ok.1)); have := strOct_len (b := 7) (m := 0) (txt_len ok.2); show (strOct y 4 32 ++ strOct x 7 0).length ≤ _; rw [List.length_append]; omega
theorem lns_succ {base i : Nat} {ls : List Ln} {l : Ln} (h : ls[i]? = some l) : lnsOct base (ls.take (i + 1)) = lnsOct base (ls.take i) ++ l.oct base := by
  unfold lnsOct
  rw [List.take_add_one, h]
  simp
theorem lns_len {base r : Nat} (hr : r ≤ 9999) (hb : base ≤ r) : ∀ (ls : List Ln), (∀ l ∈ ls, l.Ok r) → (lnsOct base ls).length ≤ 10101 * ls.length
  | [], _ => Nat.le_refl _
  | l :: ls, h => by
    have h1 := ln_len (base := base) (h l (List.mem_cons_self ..)) hr hb
    have h2 := lns_len hr hb ls (fun x hx => h x (List.mem_cons_of_mem _ hx))
    have e : lnsOct base (l :: ls) = l.oct base ++ lnsOct base ls := rfl
    rw [e, List.length_append, List.length_cons]
    omega
theorem lns_take_len {base r i : Nat} {ls : List Ln} (hr : r ≤ 9999) (hb : base ≤ r) (h : ∀ l ∈ ls, l.Ok r) (hn : ls.length ≤ 16) : (lnsOct base (ls.take i)).length ≤ 170000 := by
  have h1 := lns_len (base := base) hr hb (ls.take i) (fun l hl => h l (List.mem_of_mem_take hl))
  have h2 : (ls.take i).length ≤ 16 := by rw [List.length_take]; omega
  omega
end Fld
/-! reading lines and blocks: the mirror -/
namespace Fld
open PySem PySem.Spec PyProof.Rows L2
def takeWhole (os : List Int) (req base : Nat) (k : Nat) : Except Nat (Ln × Nat) :=
  match os[k]? with
  | none => .error k
  | some o => if 192 ≤ o then (takeNum os 6 192 0 9999 k).map fun z => (.fix1 z.1.toNat, z.2)
    else if 128 ≤ o then (takeNum os 3 128 0 ((base : Int) - 1) k).map fun z => (.ent1 ((base : Int) - 1 - z.1).toNat, z.2)
    else (takeNum os 2 16 0 ((req : Int) - base - 1) k).map fun z => (.ent1 ((base : Int) + z.1).toNat, z.2)
def takeNamed (os : List Int) (req base : Nat) (k : Nat) : Except Nat ((Bool × Nat) × Nat) :=
  match os[k]? with
  | none => .error k
  | some o => if 96 ≤ o then (takeNum os 4 96 0 9999 k).map fun z => ((true, z.1.toNat), z.2)
    else if 64 ≤ o then (takeNum os 3 64 0 ((base : Int) - 1) k).map fun z => ((false, ((base : Int) - 1 - z.1).toNat), z.2)
    else (takeNum os 2 0 0 ((req : Int) - base - 1) k).map fun z => ((false, ((base : Int) + z.1).toNat), z.2)
def namedLn (x : Str) : Bool × Nat → Ln
  | (true, n) => .fix2 n x
  | (false, n) => .ent2 n x
def takeLine (os : List Int) (req base : Nat) (k : Nat) : Except Nat (Ln × Nat) :=
  match os[k]? with
  | none => .error k
  | some o => if 128 ≤ o ∨ (16 ≤ o ∧ o < 32) then takeWhole os req base k
    else if 32 ≤ o ∧ o < 64 then
      (match takeStr os 4 32 1 20 k with
      | .error e => .error e
      | .ok (y, k1) => (takeStr os 7 0 0 40 k1).map fun z => (.out y z.1, z.2))
    else
      (match takeNamed os req base k with
      | .error e => .error e
      | .ok (s, k1) => (takeStr os 7 0 0 40 k1).map fun z => (namedLn z.1 s, z.2))
def takeLines (os : List Int) (req base : Nat) : Nat → Nat → Except Nat (List Ln × Nat)
  | 0, k => .ok ([], k)
  | n + 1, k => if k = os.length then .ok ([], k) else
    match takeLine os req base k with
    | .error e => .error e
    | .ok (l, k1) => (takeLines os req base n k1).map fun z => (l :: z.1, z.2)
def takeBlk (os : List Int) (k : Nat) : Except Nat (Blk × Nat) :=
  match takeNum os 8 0 0 9999 k with
  | .error e => .error e
  | .ok (r, k1) =>
    match takeNum os 8 0 0 r k1 with
    | .error e => .error e
    | .ok (d, k2) => (takeLines os r.toNat (r - d).toNat 16 k2).map fun z => (⟨r.toNat, (r - d).toNat, z.1⟩, z.2)
def rLn (K : PySem.W.Frag) : Ln → V → Hp → Prop := fun l v H => LnV K H v l
def rNm (K : PySem.W.Frag) : Bool × Nat → V → Hp → Prop := fun s v H => ∃ a, v = .ref a ∧ SqT K H a [.str (if s.1 then "fixed" else "entry"), .int s.2]
def rBlk (K : PySem.W.Frag) : Blk → V → Hp → Prop := fun b v H => BlkV K H v b
def sp_takeL (K : PySem.W.Frag) (C N : Addr) {α : Type} (f : List Int → Nat → Nat → Nat → Except Nat (α × Nat)) (R : α → V → Hp → Prop) : Sp := fun vs H Q E => ∃ (r a : Addr) (os : List Int) (k req base : Nat), vs = [.ref r, .int req, .int base] ∧ Rd K C H r a os k ∧ base ≤ req ∧ req ≤ 9999 ∧ RdRes K C N r a os H Q E R (f os req base k)
theorem sqT_but {K : PySem.W.Frag} {H H' : Hp} {p a : Addr} {xs : List V} (h : SqT K H a xs) (b : But p H H') (n1 : ∀ ys, H p ≠ some (.tup ys)) (n2 : ∀ o w, H p ≠ some (.frz o w)) : SqT K H' a xs := by
  rcases h with (h | ⟨o, h⟩) | h
  · exact .inl (.inl (b a _ (fun e => n1 _ (e ▸ h)) h))
  · exact .inl (.inr ⟨o, b a _ (fun e => n2 _ _ (e ▸ h)) h⟩)
  · exact .inr h
theorem lns_but {K : PySem.W.Frag} {H H' : Hp} {p : Addr} (b : But p H H') (n1 : ∀ ys, H p ≠ some (.tup ys)) (n2 : ∀ o w, H p ≠ some (.frz o w)) : ∀ {xs : List V} {ls : List Ln}, LnsV K H xs ls → LnsV K H' xs ls
  | _, _, .nil => .nil
  | _, _, .cons ⟨a, e, h⟩ t => .cons ⟨a, e, sqT_but h b n1 n2⟩ (lns_but b n1 n2 t)
theorem lns_app {K : PySem.W.Frag} {H : Hp} {v : V} {l : Ln} (h : LnV K H v l) : ∀ {xs : List V} {ls : List Ln}, LnsV K H xs ls → LnsV K H (xs ++ [v]) (ls ++ [l])
  | _, _, .nil => .cons h .nil
  | _, _, .cons h1 t => .cons h1 (lns_app h t)
end Fld
/-! what is written of a block is read again -/
namespace Fld
open PySem PySem.Spec PyProof.Rows L2
theorem head_at {pre os suf : List Int} {o : Int} {l : List Int} (h : os = o :: l) : (pre ++ (os ++ suf))[pre.length]? = some o := by
  rw [h, List.getElem?_append_right (Nat.le_refl _), Nat.sub_self]
  rfl
theorem p7 : ((2 ^ 7 - 1 : Nat) : Int) = 127 := rfl
theorem p6 : ((2 ^ 6 - 1 : Nat) : Int) = 63 := rfl
theorem p4 : ((2 ^ 4 - 1 : Nat) : Int) = 15 := rfl
theorem p3 : ((2 ^ 3 - 1 : Nat) : Int) = 7 := rfl
theorem p2 : ((2 ^ 2 - 1 : Nat) : Int) = 3 := rfl
theorem line_named {pre no suf : List Int} {x : Str} {req base : Nat} {s : Bool × Nat} {o : Int} {l : List Int} (hh : no = o :: l) (h0 : o < 16 ∨ (64 ≤ o ∧ o < 128)) (hx : txt (.str x) 0 40 = true) (hn : takeNamed (pre ++ (no ++ (strOct x 7 0 ++ suf))) req base pre.length = .ok (s, pre.length + no.length)) :
    takeLine (pre ++ ((no ++ strOct x 7 0) ++ suf)) req base pre.length = .ok (namedLn x s, pre.length + (no ++ strOct x 7 0).length) := by
  have h40 := txt_len hx
  have e1 : pre ++ ((no ++ strOct x 7 0) ++ suf) = pre ++ (no ++ (strOct x 7 0 ++ suf)) := by rw [List.append_assoc]
  rw [e1]
  unfold takeLine
  rw [head_at hh]
  dsimp only
  rw [if_neg (by omega), if_neg (by omega), hn]
  dsimp only
  have := takeStr_oct x 7 0 0 40 (pre ++ no) suf (txt_all hx) (by omega) (by omega) (by decide) (by decide)
  rw [List.append_assoc, List.length_append] at this
  rw [this]
  refine congrArg Except.ok (Prod.ext rfl ?_)
  show pre.length + no.length + (strOct x 7 0).length = pre.length + (no ++ strOct x 7 0).length
  rw [List.length_append]
  omega
theorem line_oct {pre suf : List Int} {req base : Nat} (hr : req ≤ 9999) (hb : base ≤ req) (l : Ln) (ok : l.Ok req) : takeLine (pre ++ (l.oct base ++ suf)) req base pre.length = .ok (l, pre.length + (l.oct base).length) := by
  have P6 := p6
  have P4 := p4
  have P3 := p3
  have P2 := p2
  cases l with
  | fix1 n =>
    have hn : n ≤ 9999 := ok
    obtain ⟨o, t, e, h1, h2⟩ := numOct_head n 6 192
    have e0 : (Ln.fix1 n).oct base = numOct n 6 192 := rfl
    rw [e0]
    unfold takeLine takeWhole
    rw [head_at e]
    dsimp only
    rw [if_pos (.inl (by omega)), if_pos (by omega), takeNum_oct n 6 192 0 9999 pre suf (by omega) (by omega) (by decide) (by decide)]
    show Except.ok (Ln.fix1 ((n : Nat) : Int).toNat, _) = _
    rw [Int.toNat_natCast]
  | fix2 n x =>
    obtain ⟨o, t, e, h1, h2⟩ := numOct_head n 4 96
    have h9 := ok.1
    refine line_named (s := (true, n)) e (by omega) ok.2 ?_
    unfold takeNamed
    rw [head_at e]
    dsimp only
    rw [if_pos (by omega), takeNum_oct n 4 96 0 9999 pre _ (by omega) (by omega) (by decide) (by decide)]
    show Except.ok ((true, ((n : Nat) : Int).toNat), _) = _
    rw [Int.toNat_natCast]
  | ent1 n =>
    have hn : n < req := ok
    have e0 : (Ln.ent1 n).oct base = wholeOct base n := rfl
    rw [e0]
    unfold wholeOct
    by_cases hlt : n < base
    · rw [if_pos hlt]
      obtain ⟨o, t, e, h1, h2⟩ := numOct_head (base - n - 1) 3 128
      unfold takeLine takeWhole
      rw [head_at e]
      dsimp only
      rw [if_pos (.inl (by omega)), if_neg (by omega), if_pos (by omega), takeNum_oct (base - n - 1) 3 128 0 ((base : Int) - 1) pre suf (by omega) (by omega) (by decide) (by omega)]
      show Except.ok (Ln.ent1 ((base : Int) - 1 - ((base - n - 1 : Nat) : Int)).toNat, _) = _
      rw [show ((base : Int) - 1 - ((base - n - 1 : Nat) : Int)).toNat = n by omega]
    · rw [if_neg hlt]
      obtain ⟨o, t, e, h1, h2⟩ := numOct_head (n - base) 2 16
      unfold takeLine takeWhole
      rw [head_at e]
      dsimp only
      rw [if_pos (.inr ⟨by omega, by omega⟩), if_neg (by omega), if_neg (by omega), takeNum_oct (n - base) 2 16 0 ((req : Int) - base - 1) pre suf (by omega) (by omega) (by decide) (by omega)]
      show Except.ok (Ln.ent1 ((base : Int) + ((n - base : Nat) : Int)).toNat, _) = _
      rw [show ((base : Int) + ((n - base : Nat) : Int)).toNat = n by omega]
  | ent2 n x =>
    have hn := ok.1
    have e0 : (Ln.ent2 n x).oct base = namedOct base n ++ strOct x 7 0 := rfl
    rw [e0]
    unfold namedOct
    by_cases hlt : n < base
    · rw [if_pos hlt]
      obtain ⟨o, t, e, h1, h2⟩ := numOct_head (base - n - 1) 3 64
      refine line_named (s := (false, n)) e (by omega) ok.2 ?_
      unfold takeNamed
      rw [head_at e]
      dsimp only
      rw [if_neg (by omega), if_pos (by omega), takeNum_oct (base - n - 1) 3 64 0 ((base : Int) - 1) pre _ (by omega) (by omega) (by decide) (by omega)]
      show Except.ok ((false, ((base : Int) - 1 - ((base - n - 1 : Nat) : Int)).toNat), _) = _
      rw [show ((base : Int) - 1 - ((base - n - 1 : Nat) : Int)).toNat = n by omega]
    · rw [if_neg hlt]
      obtain ⟨o, t, e, h1, h2⟩ := numOct_head (n - base) 2 0
      refine line_named (s := (false, n)) e (by omega) ok.2 ?_
      unfold takeNamed
      rw [head_at e]
      dsimp only
      rw [if_neg (by omega), if_neg (by omega), takeNum_oct (n - base) 2 0 0 ((req : Int) - base - 1) pre _ (by omega) (by omega) (by decide) (by omega)]
      show Except.ok ((false, ((base : Int) + ((n - base : Nat) : Int)).toNat), _) = _
      rw [show ((base : Int) + ((n - base : Nat) : Int)).toNat = n by omega]
  | out y x =>
    obtain ⟨o, t, e, h1, h2⟩ := strOct_head y 4 32
    have h40 := txt_len ok.2
    have h20 := txt_len20 ok.1
    have e0 : (Ln.out y x).oct base = strOct y 4 32 ++ strOct x 7 0 := rfl
    rw [e0, show pre ++ ((strOct y 4 32 ++ strOct x 7 0) ++ suf) = pre ++ (strOct y 4 32 ++ (strOct x 7 0 ++ suf)) by rw [List.append_assoc]]
    unfold takeLine
    rw [head_at e]
    dsimp only
    rw [if_neg (by omega), if_pos ⟨by omega, by omega⟩, takeStr_oct y 4 32 1 20 pre _ (txt_all ok.1) (by omega) (by omega) (by decide) (by decide)]
    dsimp only
    have := takeStr_oct x 7 0 0 40 (pre ++ strOct y 4 32) suf (txt_all ok.2) (by omega) (by omega) (by decide) (by decide)
    rw [List.append_assoc, List.length_append] at this
    rw [this]
    refine congrArg Except.ok (Prod.ext rfl ?_)
    show pre.length + (strOct y 4 32).length + (strOct x 7 0).length = pre.length + (strOct y 4 32 ++ strOct x 7 0).length
    rw [List.length_append]
    omega
theorem ln_pos {base : Nat} (l : Ln) : 0 < (l.oct base).length := by
  have hd : ∀ {os : List Int}, (∃ o t, os = o :: t) → 0 < os.length := fun ⟨o, t, e⟩ => by rw [e]; exact Nat.succ_pos _
  have nm : ∀ n b m, 0 < (numOct n b m).length := fun n b m => hd (let ⟨o, t, e, _⟩ := numOct_head n b m; ⟨o, t, e⟩)
  have st : ∀ x b m, 0 < (strOct x b m).length := fun x b m => hd (let ⟨o, t, e, _⟩ := strOct_head x b m; ⟨o, t, e⟩)
  cases l with
  | fix1 n => exact nm _ _ _
  | fix2 n x => show 0 < (numOct n 4 96 ++ strOct x 7 0).length; rw [List.length_append]; have := st x 7 0; omega
  | ent1 n => show 0 < (wholeOct base n).length; unfold wholeOct; split <;> exact nm _ _ _
  | ent2 n x => show 0 < (namedOct base n ++ strOct x 7 0).length; rw [List.length_append]; have := st x 7 0; omega
  | out y x => show 0 < (strOct y 4 32 ++ strOct x 7 0).length; rw [List.length_append]; have := st x 7 0; omega
theorem lines_oct {req base : Nat} (hr : req ≤ 9999) (hb : base ≤ req) : ∀ (ls : List Ln) (N : Nat) (pre : List Int), (∀ l ∈ ls, l.Ok req) → ls.length ≤ N → takeLines (pre ++ lnsOct base ls) req base N pre.length = .ok (ls, (pre ++ lnsOct base ls).length)
  | [], N, pre, _, _ => by
    have e : pre ++ lnsOct base [] = pre := List.append_nil _
    rw [e]
    cases N with
    | zero => rfl
    | succ n => rw [takeLines, if_pos rfl]
  | l :: ls, 0, pre, _, h => absurd h (Nat.not_succ_le_zero _)
  | l :: ls, n + 1, pre, ok, h => by
    have e : lnsOct base (l :: ls) = l.oct base ++ lnsOct base ls := rfl
    have hp := ln_pos (base := base) l
    rw [e, takeLines, if_neg (by rw [List.length_append, List.length_append]; omega), line_oct hr hb l (ok l (List.mem_cons_self ..))]
    dsimp only
    have ih := lines_oct hr hb ls n (pre ++ l.oct base) (fun x hx => ok x (List.mem_cons_of_mem _ hx)) (Nat.le_of_succ_le_succ h)
    rw [List.append_assoc, List.length_append] at ih
    rw [ih]
    rfl
theorem whole_blk (b : Blk) (ok : b.Ok) : whole b.oct takeBlk = .ok b := by
  have o1 := ok.req_
  have o2 := ok.base_
  obtain ⟨req, base, ls⟩ := b
  refine whole_of ?_
  dsimp only at o1 o2
  have o3 := ok.len_
  have o4 := ok.lns_
  dsimp only at o3 o4
  have e0 : (Blk.mk req base ls).oct = numOct req 8 0 ++ (numOct (req - base) 8 0 ++ lnsOct base ls) := by
    show (numOct req 8 0 ++ numOct (req - base) 8 0) ++ lnsOct base ls = _
    rw [List.append_assoc]
  have h1 := takeNum0 req 8 0 0 9999 (numOct (req - base) 8 0 ++ lnsOct base ls) (by omega) (by omega) (by decide) (by decide)
  have h2 := takeNum_oct (req - base) 8 0 0 (req : Int) (numOct req 8 0) (lnsOct base ls) (by omega) (by omega) (by decide) (by omega)
  have h3 := lines_oct (pre := numOct req 8 0 ++ numOct (req - base) 8 0) o1 o2 ls 16 o4 o3
  unfold takeBlk
  rw [e0, h1]
  dsimp only
  rw [h2]
  dsimp only
  rw [List.append_assoc, List.length_append] at h3
  have eb : ((req : Int) - ((req - base : Nat) : Int)).toNat = base := by omega
  rw [Int.toNat_natCast, eb, h3]
  rfl
end Fld
/-! lines and blocks as data; how the laws draw them -/
namespace Fld
open PySem PySem.Spec PyProof.Rows L2
def Ln.dat : Ln → PyData
  | .fix1 n => .tuple [.str "fixed", .int n]
  | .fix2 n x => .tuple [.str "fixed", .int n, .str x]
  | .ent1 n => .tuple [.str "entry", .int n]
  | .ent2 n x => .tuple [.str "entry", .int n, .str x]
  | .out y x => .tuple [.str "out", .str y, .str x]
def Blk.dat (b : Blk) : PyData := .tuple [.int b.req, .int b.base, .tuple (b.ls.map Ln.dat)]
theorem dp_ln {K : PySem.W.Frag} {H : Hp} {a : Addr} {l : Ln} (h : SqT K H a l.vs) : Dp K H (.ref a) l.dat := by
  cases l with
  | fix1 n => exact .tup h (.cons (.str _) (.cons (.int _) .nil))
  | fix2 n x => exact .tup h (.cons (.str _) (.cons (.int _) (.cons (.str _) .nil)))
  | ent1 n => exact .tup h (.cons (.str _) (.cons (.int _) .nil))
  | ent2 n x => exact .tup h (.cons (.str _) (.cons (.int _) (.cons (.str _) .nil)))
  | out y x => exact .tup h (.cons (.str _) (.cons (.str _) (.cons (.str _) .nil)))
theorem dp_lns {K : PySem.W.Frag} {H : Hp} : ∀ {xs : List V} {ls : List Ln}, LnsV K H xs ls → DpAll K H xs (ls.map Ln.dat)
  | _, _, .nil => .nil
  | _, _, .cons ⟨_, e, h⟩ t => .cons (e ▸ dp_ln h) (dp_lns t)
theorem dp_blk {K : PySem.W.Frag} {H : Hp} {v : V} {b : Blk} (h : BlkV K H v b) : Dp K H v b.dat := by
  obtain ⟨a, t, xs, rfl, h1, h2, h3⟩ := h
  exact .tup h1 (.cons (.int _) (.cons (.int _) (.cons (.tup h2 (dp_lns h3)) .nil)))
theorem dle_ln (n : Nat) (l : Ln) : DLe (n + 1) l.dat := by
  cases l with
  | fix1 k => exact dle_2 (dle_str _ _) (dle_int _ _)
  | fix2 k x => exact dle_3 (dle_str _ _) (dle_int _ _) (dle_str _ _)
  | ent1 k => exact dle_2 (dle_str _ _) (dle_int _ _)
  | ent2 k x => exact dle_3 (dle_str _ _) (dle_int _ _) (dle_str _ _)
  | out y x => exact dle_3 (dle_str _ _) (dle_str _ _) (dle_str _ _)
theorem dle_blk (n : Nat) {b : Blk} (ok : b.Ok) : DLe (n + 3) b.dat := by
  refine dle_3 (dle_int _ _) (dle_int _ _) ⟨?_, fun d hd => ?_⟩
  · rw [List.length_map]; have := ok.len_; omega
  · obtain ⟨l, _, rfl⟩ := List.mem_map.mp hd
    exact dle_ln n l
theorem okD_ln {r : Nat} {l : Ln} (hr : r ≤ 9999) (ok : l.Ok r) : okD l.dat = true ∧ wD l.dat ≤ 5000 := by
  cases l with
  | fix1 n =>
    refine ⟨?_, by show 10 * 5 + 2 + 2 + (1010 + 2 + 0) + 4 ≤ 5000; decide⟩
    show (okD (.str "fixed") && (okD (.int (n : Nat)) && true)) = true
    rw [okD_nat ok]; decide +kernel
  | ent1 n =>
    have h : n < r := ok
    refine ⟨?_, by show 10 * 5 + 2 + 2 + (1010 + 2 + 0) + 4 ≤ 5000; decide⟩
    show (okD (.str "entry") && (okD (.int (n : Nat)) && true)) = true
    rw [okD_nat (by omega)]; decide +kernel
  | fix2 n x =>
    have hx := txt_len ok.2
    refine ⟨?_, by show 10 * 5 + 2 + 2 + (1010 + 2 + (10 * x.length + 2 + 2 + 0)) + 4 ≤ 5000; omega⟩
    show (okD (.str "fixed") && (okD (.int (n : Nat)) && (okD (.str x) && true))) = true
    rw [okD_nat ok.1, okD_str (txt_all ok.2)]; decide +kernel
  | ent2 n x =>
    have hx := txt_len ok.2
    have h := ok.1
    refine ⟨?_, by show 10 * 5 + 2 + 2 + (1010 + 2 + (10 * x.length + 2 + 2 + 0)) + 4 ≤ 5000; omega⟩
    show (okD (.str "entry") && (okD (.int (n : Nat)) && (okD (.str x) && true))) = true
    rw [okD_nat (by omega), okD_str (txt_all ok.2)]; decide +kernel
  | out y x =>
    have hx := txt_len ok.2
    have hy := txt_len20 ok.1
    refine ⟨?_, by show 10 * 3 + 2 + 2 + (10 * y.length + 2 + 2 + (10 * x.length + 2 + 2 + 0)) + 4 ≤ 5000; omega⟩
    show (okD (.str "out") && (okD (.str y) && (okD (.str x) && true))) = true
    rw [okD_str (txt_all ok.1), okD_str (txt_all ok.2)]; decide +kernel
theorem okD_lns {r : Nat} (hr : r ≤ 9999) : ∀ {ls : List Ln}, (∀ l ∈ ls, l.Ok r) → okAll (ls.map Ln.dat) = true ∧ wAll (ls.map Ln.dat) ≤ 5002 * ls.length
  | [], _ => ⟨rfl, Nat.le_refl _⟩
  | l :: ls, h => by
    have h1 := okD_ln hr (h l (List.mem_cons_self ..))
    have h2 := okD_lns hr (ls := ls) fun x hx => h x (List.mem_cons_of_mem _ hx)
    refine ⟨?_, ?_⟩
    · show (okD l.dat && okAll (ls.map Ln.dat)) = true
      rw [h1.1, h2.1]; rfl
    · show wD l.dat + 2 + wAll (ls.map Ln.dat) ≤ 5002 * (ls.length + 1)
      have := h1.2
      have := h2.2
      omega
theorem okD_blk {b : Blk} (ok : b.Ok) : okD b.dat = true ∧ wD b.dat ≤ 10000000 := by
  have h := okD_lns ok.req_ ok.lns_
  have h1 := ok.req_
  have h2 := ok.base_
  have h3 := ok.len_
  refine ⟨?_, ?_⟩
  · show (okD (.int (b.req : Nat)) && (okD (.int (b.base : Nat)) && (okAll (b.ls.map Ln.dat) && true))) = true
    rw [okD_nat h1, okD_nat (by omega), h.1]; rfl
  · show 1010 + 2 + (1010 + 2 + (wAll (b.ls.map Ln.dat) + 4 + 2 + 0)) + 4 ≤ 10000000
    have := h.2
    omega
theorem blk_len {b : Blk} (ok : b.Ok) : b.oct.length ≤ 1000000 ∧ b.oct.length ≤ 200000 := by
  have h := lns_len ok.req_ ok.base_ b.ls ok.lns_
  have h1 := ok.req_
  have h2 := ok.base_
  have h3 := ok.len_
  have l1 := numOct_len b.req 8 0
  have l2 := numOct_len (b.req - b.base) 8 0
  unfold Blk.oct
  rw [List.length_append, List.length_append]
  omega
theorem ln_octs {base r : Nat} {l : Ln} (ok : l.Ok r) : ∀ o ∈ l.oct base, 0 ≤ o ∧ o < 256 := by
  cases l with
  | fix1 n => exact numOct_oct (by decide)
  | fix2 n x => exact app_oct (numOct_oct (by decide)) (strOct_oct (by decide) (txt_all ok.2))
  | ent1 n => show ∀ o ∈ wholeOct base n, _; unfold wholeOct; split <;> exact numOct_oct (by decide)
  | ent2 n x =>
    refine app_oct ?_ (strOct_oct (by decide) (txt_all ok.2))
    unfold namedOct; split <;> exact numOct_oct (by decide)
  | out y x => exact app_oct (strOct_oct (by decide) (txt_all ok.1)) (strOct_oct (by decide) (txt_all ok.2))
theorem lns_octs {base r : Nat} : ∀ {ls : List Ln}, (∀ l ∈ ls, l.Ok r) → ∀ o ∈ lnsOct base ls, 0 ≤ o ∧ o < 256
  | [], _ => fun o ho => nomatch ho
  | l :: ls, h => app_oct (ln_octs (h l (List.mem_cons_self ..))) (lns_octs (ls := ls) fun x hx => h x (List.mem_cons_of_mem _ hx))
theorem blk_octs {b : Blk} (ok : b.Ok) : ∀ o ∈ b.oct, 0 ≤ o ∧ o < 256 := app_oct (app_oct (numOct_oct (by decide)) (numOct_oct (by decide))) (lns_octs ok.lns_)
def sp_law_draw_line : Sp := fun vs H Q _ => ∃ (p c : Addr) (n req : Nat), vs = [.ref p, .int req] ∧ Pen H p c n ∧ n ≤ 700000 ∧ req ≤ 9999 ∧ ∀ (a : Addr) (l : Ln) H', H' a = some (.tup l.vs) → l.Ok req → Drew p c H H' (n + 200) → Q (.ref a) H'
def sp_law_draw_block (K : PySem.W.Frag) : Sp := fun vs H Q _ => ∃ (p c : Addr) (n : Nat), vs = [.ref p] ∧ Pen H p c n ∧ n ≤ 600000 ∧ ∀ v (b : Blk) H', BlkV K H' v b → b.Ok → Drew p c H H' (n + 4000) → Q v H'
theorem restOct_len2 {r : Nat} (h : r < 16384) : (restOct r).length ≤ 2 := by
  by_cases h1 : r < 128
  · rw [restOct_lt h1]; show 1 ≤ 2; decide
  · rw [restOct_ge h1, restOct_lt (show r / 128 < 128 by omega)]; show 2 ≤ 2; decide
theorem numOct_len3 {n b m : Nat} (h : n ≤ 9999) : (numOct n b m).length ≤ 3 := by
  unfold numOct
  by_cases h1 : n < 2 ^ b - 1
  · rw [if_pos h1]; show 1 ≤ 3; decide
  · rw [if_neg h1, List.length_cons]
    have := restOct_len2 (r := n - (2 ^ b - 1)) (by omega)
    omega
theorem strOct_len2 {x : Str} {b m : Nat} (h : x.length ≤ 40) : (strOct x b m).length ≤ 43 := by
  unfold strOct
  have := numOct_len3 (n := x.length) (b := b) (m := m) (by omega)
  rw [List.length_append, List.length_map, ← str_len]
  omega
theorem ln_len2 {base r : Nat} {l : Ln} (ok : l.Ok r) (hr : r ≤ 9999) (hb : base ≤ r) : (l.oct base).length ≤ 90 := by
  cases l with
  | fix1 n => have h : n ≤ 9999 := ok; have := numOct_len3 (b := 6) (m := 192) h; show (numOct n 6 192).length ≤ _; omega
  | fix2 n x => have := numOct_len3 (b := 4) (m := 96) ok.1; have := strOct_len2 (b := 7) (m := 0) (txt_len ok.2); show (numOct n 4 96 ++ strOct x 7 0).length ≤ _; rw [List.length_append]; omega
  | ent1 n =>
    have h : n < r := ok
    show (wholeOct base n).length ≤ _
    unfold wholeOct
    split
    · have := numOct_len3 (n := base - n - 1) (b := 3) (m := 128) (by omega); omega
    · have := numOct_len3 (n := n - base) (b := 2) (m := 16) (by omega); omega
  | ent2 n x =>
    have h := ok.1
    have := strOct_len2 (b := 7) (m := 0) (txt_len ok.2)
    show (namedOct base n ++ strOct x 7 0).length ≤ _
    rw [List.length_append]
    unfold namedOct
    split
    · have := numOct_len3 (n := base - n - 1) (b := 3) (m := 64) (by omega); omega
    · have := numOct_len3 (n := n - base) (b := 2) (m := 0) (by omega); omega
  | out y x => have := strOct_len2 (b := 4) (m := 32) (txt_len (txt_20 ok.1)); have := strOct_len2 (b := 7) (m := 0) (txt_len ok.2); show (strOct y 4 32 ++ strOct x 7 0).length ≤ _; rw [List.length_append]; omega
theorem lns_len2 {base r : Nat} (hr : r ≤ 9999) (hb : base ≤ r) : ∀ (ls : List Ln), (∀ l ∈ ls, l.Ok r) → (lnsOct base ls).length ≤ 90 * ls.length
  | [], _ => Nat.le_refl _
  | l :: ls, h => by
    have h1 := ln_len2 (base := base) (h l (List.mem_cons_self ..)) hr hb
    have h2 := lns_len2 hr hb ls (fun x hx => h x (List.mem_cons_of_mem _ hx))
    have e : lnsOct base (l :: ls) = l.oct base ++ lnsOct base ls := rfl
    rw [e, List.length_append, List.length_cons]
    omega
theorem blk_len2 {b : Blk} (ok : b.Ok) : b.oct.length ≤ 2000 := by
  have h := lns_len2 ok.req_ ok.base_ b.ls ok.lns_
  have h1 := ok.req_
  have h2 := ok.base_
  have h3 := ok.len_
  have l1 := numOct_len3 (b := 8) (m := 0) h1
  have l2 := numOct_len3 (n := b.req - b.base) (b := 8) (m := 0) (by omega)
  unfold Blk.oct
  rw [List.length_append, List.length_append]
  omega
end Fld
/-! what is read is just what these octets write -/
namespace Fld
open PySem PySem.Spec PyProof.Rows L2
theorem takeRest_inv (most : Int) : ∀ (l : List Int) (k : Nat) (r w : Int) (n : Int) (k1 : Nat), (∀ o ∈ l, 0 ≤ o ∧ o < 256) → 1 ≤ w → takeRest most l k r w = .ok (n, k1) →
    ∃ (d : Nat) (l' : List Int), l = restOct d ++ l' ∧ n = r + (d : Int) * w ∧ k1 = k + (restOct d).length ∧ (0 < d ∨ w = 1)
  | [], k, r, w, n, k1, _, _, h => by rw [takeRest] at h; cases h
  | o :: l, k, r, w, n, k1, ho, hw, h => by
    have ho1 := ho o (List.mem_cons_self ..)
    rw [takeRest] at h
    by_cases h1 : 128 ≤ o
    · rw [if_pos h1] at h
      by_cases h2 : r + (o - 128) * w + w * 128 ≤ most
      · rw [if_pos h2] at h
        obtain ⟨d', l', e1, e2, e3, e4⟩ := takeRest_inv most l _ _ _ n k1 (fun x hx => ho x (List.mem_cons_of_mem _ hx)) (by omega) h
        have hd : 0 < d' := by
          rcases e4 with z | z
          · exact z
          · omega
        obtain ⟨c, rfl⟩ : ∃ c : Nat, o = 128 + (c : Int) := ⟨(o - 128).toNat, by omega⟩
        have hc : c < 128 := by omega
        have hge : ¬ c + 128 * d' < 128 := by omega
        have em : (((c + 128 * d' : Nat) : Int)) % 128 = (c : Int) := by omega
        have ed : (c + 128 * d') / 128 = d' := by omega
        refine ⟨c + 128 * d', l', ?_, ?_, ?_, .inl (by omega)⟩
        · rw [restOct_ge hge, em, ed, e1]; rfl
        · rw [e2, show (128 + (c : Int) - 128) = (c : Int) by omega, show (((c + 128 * d' : Nat)) : Int) = (c : Int) + 128 * (d' : Int) by omega, Int.add_mul, Int.mul_comm w 128, ← Int.mul_assoc, Int.mul_comm (d' : Int) 128, Int.add_assoc]
        · rw [e3, restOct_ge hge, ed, List.length_cons]; omega
      · rw [if_neg h2] at h; cases h
    · rw [if_neg h1] at h
      by_cases h2 : r + o * w ≤ most ∧ (0 < o ∨ w = 1)
      · rw [if_pos h2] at h
        cases h
        obtain ⟨c, rfl⟩ : ∃ c : Nat, o = (c : Int) := ⟨o.toNat, by omega⟩
        have hlt : c < 128 := by omega
        refine ⟨c, l, by rw [restOct_lt hlt]; rfl, rfl, by rw [restOct_lt hlt]; rfl, ?_⟩
        rcases h2.2 with z | z
        · exact .inl (by omega)
        · exact .inr z
      · rw [if_neg h2] at h; cases h
theorem drop_of {os a l : List Int} {k : Nat} (h : os.drop k = a ++ l) : os.drop (k + a.length) = l := by
  rw [← List.drop_drop, h, List.drop_append]
  simp
theorem takeNum_inv {os : List Int} {b m : Nat} {least most : Int} {k : Nat} {n : Int} {k1 : Nat} (hos : ∀ o ∈ os, 0 ≤ o ∧ o < 256) (hl : 0 ≤ least) (h : takeNum os b m least most k = .ok (n, k1)) :
    ∃ d : Nat, n = (d : Int) ∧ os.drop k = numOct d b m ++ os.drop k1 ∧ k1 = k + (numOct d b m).length ∧ least ≤ n ∧ n ≤ most := by
  have hb := takeNum_bound os b m least most k (fun o ho => (hos o ho).1) n k1 h
  unfold takeNum at h
  cases ho : os[k]? with
  | none => rw [ho] at h; cases h
  | some o =>
    rw [ho] at h
    dsimp only at h
    have hlt : k < os.length := (List.getElem?_eq_some_iff.mp ho).1
    have hdr : os.drop k = o :: os.drop (k + 1) := by rw [List.drop_eq_getElem_cons hlt, (List.getElem?_eq_some_iff.mp ho).2]
    by_cases h1 : least ≤ o - (m : Int) ∧ o - (m : Int) ≤ min ((2 ^ b - 1 : Nat) : Int) most
    · rw [if_pos h1] at h
      have hp := pow_pos2 b
      by_cases h2 : o - (m : Int) < ((2 ^ b - 1 : Nat) : Int)
      · rw [if_pos h2] at h
        cases h
        obtain ⟨d, hd⟩ : ∃ d : Nat, o - (m : Int) = (d : Int) := ⟨(o - m).toNat, by omega⟩
        have hn : numOct d b m = [o] := by
          unfold numOct
          rw [if_pos (by omega)]
          rw [show ((m + d : Nat) : Int) = o by omega]
        refine ⟨d, hd, by rw [hn, hdr]; rfl, by rw [hn]; rfl, hb⟩
      · rw [if_neg h2] at h
        cases ht : takeRest (most - ((2 ^ b - 1 : Nat) : Int)) (os.drop (k + 1)) (k + 1) 0 1 with
        | error z => rw [ht] at h; cases h
        | ok z =>
          rw [ht] at h
          cases h
          obtain ⟨d', l', e1, e2, e3, _⟩ := takeRest_inv _ _ _ _ _ z.1 z.2 (fun x hx => hos x (List.mem_of_mem_drop hx)) (by decide) ht
          have e2' : z.1 = (d' : Int) := by rw [e2]; omega
          have hn : numOct ((2 ^ b - 1) + d') b m = o :: restOct d' := by
            unfold numOct
            rw [if_neg (by omega), show (2 ^ b - 1) + d' - (2 ^ b - 1) = d' by omega, show ((m + (2 ^ b - 1) : Nat) : Int) = o by omega]
          have hk : z.2 = k + (numOct ((2 ^ b - 1) + d') b m).length := by rw [e3, hn, List.length_cons]; omega
          refine ⟨(2 ^ b - 1) + d', by rw [e2']; omega, ?_, hk, hb⟩
          have hh : os.drop k = numOct ((2 ^ b - 1) + d') b m ++ l' := by rw [hn, hdr, e1]; rfl
          show os.drop k = numOct ((2 ^ b - 1) + d') b m ++ os.drop z.2
          rw [hk, drop_of hh, hh]
    · rw [if_neg h1] at h; cases h
theorem takeChars_inv : ∀ (n : Nat) (l : List Int) (k : Nat) (cs : List Nat) (k1 : Nat), (∀ o ∈ l, 0 ≤ o ∧ o < 256) → takeChars n l k = .ok (cs, k1) → cs.length = n ∧ cs.all isChar = true ∧ k1 = k + n ∧ ∃ l', l = (cs.map fun (c : Nat) => (c : Int)) ++ l'
  | 0, l, k, cs, k1, _, h => by cases h; exact ⟨rfl, rfl, rfl, l, rfl⟩
  | n + 1, [], k, cs, k1, _, h => by cases h
  | n + 1, o :: l, k, cs, k1, ho, h => by
    rw [takeChars] at h
    have ho1 := ho o (List.mem_cons_self ..)
    by_cases hc : isChar o.toNat = true
    · rw [if_pos hc] at h
      cases ht : takeChars n l (k + 1) with
      | error z => rw [ht] at h; cases h
      | ok z =>
        rw [ht] at h
        cases h
        obtain ⟨e1, e2, e3, l', e4⟩ := takeChars_inv n l (k + 1) z.1 z.2 (fun x hx => ho x (List.mem_cons_of_mem _ hx)) ht
        refine ⟨by rw [List.length_cons, e1], by rw [List.all_cons, hc, e2]; rfl, by show z.2 = _; omega, l', ?_⟩
        rw [List.map_cons, Int.toNat_of_nonneg ho1.1, e4]
        rfl
    · rw [if_neg hc] at h; cases h
theorem takeStr_inv {os : List Int} {b m : Nat} {least most : Int} {k : Nat} {x : Str} {k1 : Nat} (hos : ∀ o ∈ os, 0 ≤ o ∧ o < 256) (hl : 0 ≤ least) (h : takeStr os b m least most k = .ok (x, k1)) :
    x.cps.toList.all isChar = true ∧ least ≤ (x.length : Int) ∧ (x.length : Int) ≤ most ∧ os.drop k = strOct x b m ++ os.drop k1 ∧ k1 = k + (strOct x b m).length := by
  unfold takeStr at h
  cases hn : takeNum os b m least most k with
  | error z => rw [hn] at h; cases h
  | ok z =>
    obtain ⟨n, k2⟩ := z
    rw [hn] at h
    dsimp only at h
    obtain ⟨d, rfl, e1, e2, e3, e4⟩ := takeNum_inv hos hl hn
    rw [Int.toNat_natCast] at h
    cases hc : takeChars d (os.drop k2) k2 with
    | error z => rw [hc] at h; cases h
    | ok z =>
      rw [hc] at h
      cases h
      obtain ⟨c1, c2, c3, l', c4⟩ := takeChars_inv d _ k2 z.1 z.2 (fun x hx => hos x (List.mem_of_mem_drop hx)) hc
      have hx : (⟨z.1.toArray⟩ : Str).length = d := by show z.1.toArray.size = d; rw [List.size_toArray, c1]
      have hs : strOct (⟨z.1.toArray⟩ : Str) b m = numOct d b m ++ z.1.map fun (c : Nat) => (c : Int) := by
        unfold strOct
        rw [hx]
      have hh : os.drop k = strOct (⟨z.1.toArray⟩ : Str) b m ++ l' := by rw [e1, c4, hs, List.append_assoc]
      have hk : z.2 = k + (strOct (⟨z.1.toArray⟩ : Str) b m).length := by rw [c3, e2, hs, List.length_append, List.length_map, c1]; omega
      refine ⟨c2, by rw [hx]; exact e3, by rw [hx]; exact e4, ?_, hk⟩
      show os.drop k = _ ++ os.drop z.2
      rw [hk, drop_of hh, hh]
end Fld
/-! what is read: instructions, answers, blocks; nothing that begins what is written is one -/
namespace Fld
open PySem PySem.Spec PyProof.Rows L2
theorem txt_mk {x : Str} {a b : Int} (h : x.cps.toList.all isChar = true ∧ a ≤ (x.length : Int) ∧ (x.length : Int) ≤ b) : txt (.str x) a b = true := txt_of h.2.1 h.2.2 h.1
theorem drop_eq {os a : List Int} {k k1 : Nat} (h : os.drop k = a ++ os.drop k1) (hk : k1 = k + a.length) : True := True.intro
/-- from a number's or a text's reading to the thing's -/
theorem takeAns_inv {os : List Int} {i : Ans} {k1 : Nat} (hos : ∀ o ∈ os, 0 ≤ o ∧ o < 256) (h : takeAns os 0 = .ok (i, k1)) : os = i.oct ++ os.drop k1 ∧ k1 = i.oct.length ∧ i.Ok := by
  unfold takeAns at h
  cases ho : os[0]? with
  | none => rw [ho] at h; cases h
  | some o =>
    rw [ho] at h
    dsimp only at h
    have go : ∀ (b m : Nat) (least most : Int) (f : Nat → Ans), 0 ≤ least → (takeNum os b m least most 0).map (fun z => (f z.1.toNat, z.2)) = .ok (i, k1) → ∃ d : Nat, i = f d ∧ os = numOct d b m ++ os.drop k1 ∧ k1 = (numOct d b m).length ∧ least ≤ (d : Int) ∧ (d : Int) ≤ most := by
      intro b m least most f hl h
      cases hn : takeNum os b m least most 0 with
      | error z => rw [hn] at h; cases h
      | ok z =>
        rw [hn] at h
        cases h
        obtain ⟨d, e0, e1, e2, e3, e4⟩ := takeNum_inv (n := z.1) (k1 := z.2) hos hl hn
        refine ⟨d, by rw [e0, Int.toNat_natCast], e1, by rw [Nat.zero_add] at e2; exact e2, by omega, by omega⟩
    by_cases h1 : 128 ≤ o
    · rw [if_pos h1] at h
      obtain ⟨d, rfl, e1, e2, e3, e4⟩ := go _ _ _ _ .done (by decide) h
      exact ⟨e1, e2, by show d ≤ 20; omega⟩
    · rw [if_neg h1] at h
      by_cases h2 : 64 ≤ o
      · rw [if_pos h2] at h
        obtain ⟨d, rfl, e1, e2, e3, e4⟩ := go _ _ _ _ .cancelled (by decide) h
        exact ⟨e1, e2, by show d ≤ 20; omega⟩
      · rw [if_neg h2] at h
        obtain ⟨d, rfl, e1, e2, e3, e4⟩ := go _ _ _ _ .received (by decide) h
        exact ⟨e1, e2, by omega, by omega⟩
def srcOct : Str ⊕ Bool × Nat → List Int
  | .inl y => strOct y 5 64
  | .inr (true, n) => numOct n 6 192
  | .inr (false, n) => numOct n 6 128
def srcOk : Str ⊕ Bool × Nat → Prop
  | .inl y => txt (.str y) 1 20 = true
  | .inr (_, n) => n ≤ 9999
theorem takeSrc_inv {os : List Int} {s : Str ⊕ Bool × Nat} {k1 : Nat} (hos : ∀ o ∈ os, 0 ≤ o ∧ o < 256) (h : takeSrc os 0 = .ok (s, k1)) : os = srcOct s ++ os.drop k1 ∧ k1 = (srcOct s).length ∧ srcOk s := by
  unfold takeSrc at h
  cases ho : os[0]? with
  | none => rw [ho] at h; cases h
  | some o =>
    rw [ho] at h
    dsimp only at h
    have go : ∀ (b m : Nat) (f : Nat → Str ⊕ Bool × Nat), (takeNum os b m 0 9999 0).map (fun z => (f z.1.toNat, z.2)) = .ok (s, k1) → ∃ d : Nat, s = f d ∧ os = numOct d b m ++ os.drop k1 ∧ k1 = (numOct d b m).length ∧ d ≤ 9999 := by
      intro b m f h
      cases hn : takeNum os b m 0 9999 0 with
      | error z => rw [hn] at h; cases h
      | ok z =>
        rw [hn] at h
        cases h
        obtain ⟨d, e0, e1, e2, e3, e4⟩ := takeNum_inv (n := z.1) (k1 := z.2) hos (by decide) hn
        refine ⟨d, by rw [e0, Int.toNat_natCast], e1, by rw [Nat.zero_add] at e2; exact e2, by omega⟩
    by_cases h1 : 192 ≤ o
    · rw [if_pos h1] at h
      obtain ⟨d, rfl, e1, e2, e3⟩ := go _ _ (fun n => .inr (true, n)) h
      exact ⟨e1, e2, e3⟩
    · rw [if_neg h1] at h
      by_cases h2 : 128 ≤ o
      · rw [if_pos h2] at h
        obtain ⟨d, rfl, e1, e2, e3⟩ := go _ _ (fun n => .inr (false, n)) h
        exact ⟨e1, e2, e3⟩
      · rw [if_neg h2] at h
        cases hn : takeStr os 5 64 1 20 0 with
        | error z => rw [hn] at h; cases h
        | ok z =>
          rw [hn] at h
          cases h
          obtain ⟨e1, e2, e3, e4, e5⟩ := takeStr_inv (x := z.1) (k1 := z.2) hos (by decide) hn
          exact ⟨e4, by rw [Nat.zero_add] at e5; exact e5, txt_mk ⟨e1, e2, e3⟩⟩
theorem takeIns_inv {os : List Int} {i : Ins} {k1 : Nat} (hos : ∀ o ∈ os, 0 ≤ o ∧ o < 256) (h : takeIns os 0 = .ok (i, k1)) : os = i.oct ++ os.drop k1 ∧ k1 = i.oct.length ∧ i.Ok := by
  unfold takeIns at h
  cases ho : os[0]? with
  | none => rw [ho] at h; cases h
  | some o =>
    rw [ho] at h
    dsimp only at h
    have go : ∀ (b m : Nat) (f : Nat → Ins), (takeNum os b m 0 9999 0).map (fun z => (f z.1.toNat, z.2)) = .ok (i, k1) → ∃ d : Nat, i = f d ∧ os = numOct d b m ++ os.drop k1 ∧ k1 = (numOct d b m).length ∧ d ≤ 9999 := by
      intro b m f h
      cases hn : takeNum os b m 0 9999 0 with
      | error z => rw [hn] at h; cases h
      | ok z =>
        rw [hn] at h
        cases h
        obtain ⟨d, e0, e1, e2, e3, e4⟩ := takeNum_inv (n := z.1) (k1 := z.2) hos (by decide) hn
        refine ⟨d, by rw [e0, Int.toNat_natCast], e1, by rw [Nat.zero_add] at e2; exact e2, by omega⟩
    by_cases h1 : o < 32
    · rw [if_pos h1] at h
      obtain ⟨d, rfl, e1, e2, e3⟩ := go _ _ .again h
      exact ⟨e1, e2, e3⟩
    · rw [if_neg h1] at h
      by_cases h2 : o < 64
      · rw [if_pos h2] at h
        obtain ⟨d, rfl, e1, e2, e3⟩ := go _ _ .limit h
        exact ⟨e1, e2, e3⟩
      · rw [if_neg h2] at h
        cases hs : takeSrc os 0 with
        | error z => rw [hs] at h; cases h
        | ok z =>
          obtain ⟨s, k2⟩ := z
          rw [hs] at h
          dsimp only at h
          cases hn : takeStr os 7 0 0 40 k2 with
          | error z => rw [hn] at h; cases h
          | ok z =>
            rw [hn] at h
            cases h
            obtain ⟨s1, s2, s3⟩ := takeSrc_inv hos hs
            obtain ⟨e1, e2, e3, e4, e5⟩ := takeStr_inv (x := z.1) (k1 := z.2) hos (by decide) hn
            have ht := txt_mk ⟨e1, e2, e3⟩
            have eo : (srcIns z.1 s).oct = srcOct s ++ strOct z.1 7 0 := by
              rcases s with y | ⟨b, n⟩
              · rfl
              · cases b <;> rfl
            refine ⟨?_, ?_, ?_⟩
            · rw [eo, List.append_assoc, ← e4, ← s1]
            · rw [eo, List.length_append, ← s2]; exact e5
            · rcases s with y | ⟨b, n⟩
              · exact ⟨s3, ht⟩
              · cases b <;> exact ⟨s3, ht⟩
theorem takeNamed_inv {os : List Int} {req base k : Nat} {s : Bool × Nat} {k1 : Nat} (hos : ∀ o ∈ os, 0 ≤ o ∧ o < 256) (hb : base ≤ req) (h : takeNamed os req base k = .ok (s, k1)) :
    (match s with | (true, n) => os.drop k = numOct n 4 96 ++ os.drop k1 ∧ k1 = k + (numOct n 4 96).length ∧ n ≤ 9999 | (false, n) => os.drop k = namedOct base n ++ os.drop k1 ∧ k1 = k + (namedOct base n).length ∧ n < req) := by
  unfold takeNamed at h
  cases ho : os[k]? with
  | none => rw [ho] at h; cases h
  | some o =>
    rw [ho] at h
    dsimp only at h
    by_cases h1 : 96 ≤ o
    · rw [if_pos h1] at h
      cases hn : takeNum os 4 96 0 9999 k with
      | error z => rw [hn] at h; cases h
      | ok z =>
        rw [hn] at h
        cases h
        obtain ⟨d, e0, e1, e2, e3, e4⟩ := takeNum_inv (n := z.1) (k1 := z.2) hos (by decide) hn
        dsimp only
        rw [e0, Int.toNat_natCast]
        exact ⟨e1, e2, by omega⟩
    · rw [if_neg h1] at h
      by_cases h2 : 64 ≤ o
      · rw [if_pos h2] at h
        cases hn : takeNum os 3 64 0 ((base : Int) - 1) k with
        | error z => rw [hn] at h; cases h
        | ok z =>
          rw [hn] at h
          cases h
          obtain ⟨d, e0, e1, e2, e3, e4⟩ := takeNum_inv (n := z.1) (k1 := z.2) hos (by decide) hn
          dsimp only
          have en : ((base : Int) - 1 - z.1).toNat = base - 1 - d := by omega
          have eo : namedOct base (base - 1 - d) = numOct d 3 64 := by
            unfold namedOct
            rw [if_pos (by omega), show base - (base - 1 - d) - 1 = d by omega]
          rw [en, eo]
          exact ⟨e1, e2, by omega⟩
      · rw [if_neg h2] at h
        cases hn : takeNum os 2 0 0 ((req : Int) - base - 1) k with
        | error z => rw [hn] at h; cases h
        | ok z =>
          rw [hn] at h
          cases h
          obtain ⟨d, e0, e1, e2, e3, e4⟩ := takeNum_inv (n := z.1) (k1 := z.2) hos (by decide) hn
          dsimp only
          have en : ((base : Int) + z.1).toNat = base + d := by omega
          have eo : namedOct base (base + d) = numOct d 2 0 := by
            unfold namedOct
            rw [if_neg (by omega), show base + d - base = d by omega]
          rw [en, eo]
          exact ⟨e1, e2, by omega⟩
theorem takeWhole_inv {os : List Int} {req base k : Nat} {l : Ln} {k1 : Nat} (hos : ∀ o ∈ os, 0 ≤ o ∧ o < 256) (hb : base ≤ req) (h : takeWhole os req base k = .ok (l, k1)) :
    os.drop k = l.oct base ++ os.drop k1 ∧ k1 = k + (l.oct base).length ∧ l.Ok req := by
  unfold takeWhole at h
  cases ho : os[k]? with
  | none => rw [ho] at h; cases h
  | some o =>
    rw [ho] at h
    dsimp only at h
    by_cases h1 : 192 ≤ o
    · rw [if_pos h1] at h
      cases hn : takeNum os 6 192 0 9999 k with
      | error z => rw [hn] at h; cases h
      | ok z =>
        rw [hn] at h
        cases h
        obtain ⟨d, e0, e1, e2, e3, e4⟩ := takeNum_inv (n := z.1) (k1 := z.2) hos (by decide) hn
        rw [e0, Int.toNat_natCast]
        exact ⟨e1, e2, by show d ≤ 9999; omega⟩
    · rw [if_neg h1] at h
      by_cases h2 : 128 ≤ o
      · rw [if_pos h2] at h
        cases hn : takeNum os 3 128 0 ((base : Int) - 1) k with
        | error z => rw [hn] at h; cases h
        | ok z =>
          rw [hn] at h
          cases h
          obtain ⟨d, e0, e1, e2, e3, e4⟩ := takeNum_inv (n := z.1) (k1 := z.2) hos (by decide) hn
          have en : ((base : Int) - 1 - z.1).toNat = base - 1 - d := by omega
          have eo : (Ln.ent1 (base - 1 - d)).oct base = numOct d 3 128 := by
            show wholeOct base (base - 1 - d) = _
            unfold wholeOct
            rw [if_pos (by omega), show base - (base - 1 - d) - 1 = d by omega]
          rw [en, eo]
          exact ⟨e1, e2, by show base - 1 - d < req; omega⟩
      · rw [if_neg h2] at h
        cases hn : takeNum os 2 16 0 ((req : Int) - base - 1) k with
        | error z => rw [hn] at h; cases h
        | ok z =>
          rw [hn] at h
          cases h
          obtain ⟨d, e0, e1, e2, e3, e4⟩ := takeNum_inv (n := z.1) (k1 := z.2) hos (by decide) hn
          have en : ((base : Int) + z.1).toNat = base + d := by omega
          have eo : (Ln.ent1 (base + d)).oct base = numOct d 2 16 := by
            show wholeOct base (base + d) = _
            unfold wholeOct
            rw [if_neg (by omega), show base + d - base = d by omega]
          rw [en, eo]
          exact ⟨e1, e2, by show base + d < req; omega⟩
theorem takeLine_inv {os : List Int} {req base k : Nat} {l : Ln} {k1 : Nat} (hos : ∀ o ∈ os, 0 ≤ o ∧ o < 256) (hb : base ≤ req) (h : takeLine os req base k = .ok (l, k1)) :
    os.drop k = l.oct base ++ os.drop k1 ∧ k1 = k + (l.oct base).length ∧ l.Ok req := by
  unfold takeLine at h
  cases ho : os[k]? with
  | none => rw [ho] at h; cases h
  | some o =>
    rw [ho] at h
    dsimp only at h
    by_cases h1 : 128 ≤ o ∨ (16 ≤ o ∧ o < 32)
    · rw [if_pos h1] at h
      exact takeWhole_inv hos hb h
    · rw [if_neg h1] at h
      by_cases h2 : 32 ≤ o ∧ o < 64
      · rw [if_pos h2] at h
        cases hs : takeStr os 4 32 1 20 k with
        | error z => rw [hs] at h; cases h
        | ok z =>
          obtain ⟨y, k2⟩ := z
          rw [hs] at h
          dsimp only at h
          cases hn : takeStr os 7 0 0 40 k2 with
          | error z => rw [hn] at h; cases h
          | ok z =>
            rw [hn] at h
            cases h
            obtain ⟨a1, a2, a3, a4, a5⟩ := takeStr_inv hos (by decide) hs
            obtain ⟨e1, e2, e3, e4, e5⟩ := takeStr_inv (x := z.1) (k1 := z.2) hos (by decide) hn
            have eo : (Ln.out y z.1).oct base = strOct y 4 32 ++ strOct z.1 7 0 := rfl
            refine ⟨by rw [eo, List.append_assoc, ← e4, ← a4], by rw [eo, List.length_append]; show z.2 = _; omega, txt_mk ⟨a1, a2, a3⟩, txt_mk ⟨e1, e2, e3⟩⟩
      · rw [if_neg h2] at h
        cases hs : takeNamed os req base k with
        | error z => rw [hs] at h; cases h
        | ok z =>
          obtain ⟨⟨b, n⟩, k2⟩ := z
          rw [hs] at h
          dsimp only at h
          cases hn : takeStr os 7 0 0 40 k2 with
          | error z => rw [hn] at h; cases h
          | ok z =>
            rw [hn] at h
            cases h
            have a := takeNamed_inv hos hb hs
            obtain ⟨e1, e2, e3, e4, e5⟩ := takeStr_inv (x := z.1) (k1 := z.2) hos (by decide) hn
            cases b with
            | true =>
              obtain ⟨a1, a2, a3⟩ := a
              have eo : (Ln.fix2 n z.1).oct base = numOct n 4 96 ++ strOct z.1 7 0 := rfl
              exact ⟨by show _ = (Ln.fix2 n z.1).oct base ++ _; rw [eo, List.append_assoc, ← e4, ← a1], by show z.2 = k + ((Ln.fix2 n z.1).oct base).length; rw [eo, List.length_append]; omega, a3, txt_mk ⟨e1, e2, e3⟩⟩
            | false =>
              obtain ⟨a1, a2, a3⟩ := a
              have eo : (Ln.ent2 n z.1).oct base = namedOct base n ++ strOct z.1 7 0 := rfl
              exact ⟨by show _ = (Ln.ent2 n z.1).oct base ++ _; rw [eo, List.append_assoc, ← e4, ← a1], by show z.2 = k + ((Ln.ent2 n z.1).oct base).length; rw [eo, List.length_append]; omega, a3, txt_mk ⟨e1, e2, e3⟩⟩
theorem takeLines_inv {os : List Int} {req base : Nat} (hos : ∀ o ∈ os, 0 ≤ o ∧ o < 256) (hb : base ≤ req) : ∀ (n k : Nat) (ls : List Ln) (k1 : Nat), takeLines os req base n k = .ok (ls, k1) →
    os.drop k = lnsOct base ls ++ os.drop k1 ∧ k1 = k + (lnsOct base ls).length ∧ (∀ l ∈ ls, l.Ok req) ∧ ls.length ≤ n
  | 0, k, ls, k1, h => by cases h; exact ⟨rfl, rfl, fun _ z => (nomatch z), Nat.le_refl _⟩
  | n + 1, k, ls, k1, h => by
    rw [takeLines] at h
    by_cases hk : k = os.length
    · rw [if_pos hk] at h
      cases h
      exact ⟨rfl, rfl, fun _ z => (nomatch z), Nat.zero_le _⟩
    · rw [if_neg hk] at h
      cases hl : takeLine os req base k with
      | error z => rw [hl] at h; cases h
      | ok z =>
        obtain ⟨l, k2⟩ := z
        rw [hl] at h
        dsimp only at h
        cases hn : takeLines os req base n k2 with
        | error z => rw [hn] at h; cases h
        | ok z =>
          rw [hn] at h
          cases h
          obtain ⟨a1, a2, a3⟩ := takeLine_inv hos hb hl
          obtain ⟨e1, e2, e3, e4⟩ := takeLines_inv hos hb n k2 z.1 z.2 hn
          have eo : lnsOct base (l :: z.1) = l.oct base ++ lnsOct base z.1 := rfl
          refine ⟨by rw [eo, List.append_assoc, ← e1, ← a1], by rw [eo, List.length_append]; show z.2 = _; omega, fun x hx => ?_, Nat.succ_le_succ e4⟩
          rcases List.mem_cons.mp hx with y | y
          · rw [y]; exact a3
          · exact e3 x y
theorem takeBlk_inv {os : List Int} {b : Blk} {k1 : Nat} (hos : ∀ o ∈ os, 0 ≤ o ∧ o < 256) (h : takeBlk os 0 = .ok (b, k1)) : os = b.oct ++ os.drop k1 ∧ k1 = b.oct.length ∧ b.Ok := by
  unfold takeBlk at h
  cases h1 : takeNum os 8 0 0 9999 0 with
  | error z => rw [h1] at h; cases h
  | ok z =>
    obtain ⟨r, k2⟩ := z
    rw [h1] at h
    dsimp only at h
    cases h2 : takeNum os 8 0 0 r k2 with
    | error z => rw [h2] at h; cases h
    | ok z =>
      obtain ⟨d, k3⟩ := z
      rw [h2] at h
      dsimp only at h
      obtain ⟨rq, rfl, a1, a2, a3, a4⟩ := takeNum_inv hos (by decide) h1
      obtain ⟨dn, rfl, b1, b2, b3, b4⟩ := takeNum_inv hos (by decide) h2
      have eb : ((rq : Int) - (dn : Int)).toNat = rq - dn := by omega
      rw [Int.toNat_natCast, eb] at h
      cases h3 : takeLines os rq (rq - dn) 16 k3 with
      | error z => rw [h3] at h; cases h
      | ok z =>
        rw [h3] at h
        cases h
        obtain ⟨c1, c2, c3, c4⟩ := takeLines_inv hos (Nat.sub_le _ _) 16 k3 z.1 z.2 h3
        have eo : (Blk.mk rq (rq - dn) z.1).oct = (numOct rq 8 0 ++ numOct dn 8 0) ++ lnsOct (rq - dn) z.1 := by
          show (numOct rq 8 0 ++ numOct (rq - (rq - dn)) 8 0) ++ _ = _
          rw [show rq - (rq - dn) = dn by omega]
        refine ⟨?_, ?_, by show rq ≤ 9999; omega, Nat.sub_le _ _, c4, c3⟩
        · rw [eo, List.append_assoc, List.append_assoc, ← c1, ← b1, ← a1]; rfl
        · rw [eo, List.length_append, List.length_append]; show z.2 = _; omega
/-- whole octets: just what is written -/
theorem whole_inv {α : Type} {os : List Int} {f : List Int → Nat → Except Nat (α × Nat)} {x : α} (h : whole os f = .ok x) : f os 0 = .ok (x, os.length) := by
  unfold whole at h
  cases hf : f os 0 with
  | error z => rw [hf] at h; cases h
  | ok z =>
    rw [hf] at h
    dsimp only at h
    by_cases hk : z.2 = os.length
    · rw [if_pos hk] at h
      cases h
      rw [← hk]
    · rw [if_neg hk] at h; cases h
theorem ins_back {os : List Int} {i : Ins} (hos : ∀ o ∈ os, 0 ≤ o ∧ o < 256) (h : whole os takeIns = .ok i) : os = i.oct ∧ i.Ok := by
  obtain ⟨e1, e2, e3⟩ := takeIns_inv hos (whole_inv h)
  rw [List.drop_length, List.append_nil] at e1
  exact ⟨e1, e3⟩
theorem ans_back {os : List Int} {i : Ans} (hos : ∀ o ∈ os, 0 ≤ o ∧ o < 256) (h : whole os takeAns = .ok i) : os = i.oct ∧ i.Ok := by
  obtain ⟨e1, e2, e3⟩ := takeAns_inv hos (whole_inv h)
  rw [List.drop_length, List.append_nil] at e1
  exact ⟨e1, e3⟩
theorem blk_back {os : List Int} {b : Blk} (hos : ∀ o ∈ os, 0 ≤ o ∧ o < 256) (h : whole os takeBlk = .ok b) : os = b.oct ∧ b.Ok := by
  obtain ⟨e1, e2, e3⟩ := takeBlk_inv hos (whole_inv h)
  rw [List.drop_length, List.append_nil] at e1
  exact ⟨e1, e3⟩
end Fld
/-! == of data made of ints, texts, tuples and lists is sameness -/
namespace Fld
open PySem PySem.Spec PyProof.Rows L2
mutual
def isd : PyData → Bool
  | .int _ => true
  | .str _ => true
  | .tuple xs => isdAll xs
  | .list xs => isdAll xs
  | _ => false
def isdAll : List PyData → Bool
  | [] => true
  | x :: xs => isd x && isdAll xs
end
mutual
theorem eqv_isd : ∀ (d e : PyData), isd d = true → isd e = true → (PyData.eqv d e = true ↔ d = e)
  | .int i, .int j, _, _ => by rw [PyData.eqv]; constructor <;> intro h; (rw [eq_of_beq h]); (injection h with h; rw [h]; exact beq_self_eq_true _)
  | .str i, .str j, _, _ => by rw [PyData.eqv]; constructor <;> intro h; (rw [eq_of_beq h]); (injection h with h; rw [h]; exact beq_self_eq_true _)
  | .tuple xs, .tuple ys, h1, h2 => by
    rw [isd] at h1 h2
    rw [PyData.eqv, eqvAll_isd xs ys h1 h2]
    constructor <;> intro h
    · rw [h]
    · injection h
  | .list xs, .list ys, h1, h2 => by
    rw [isd] at h1 h2
    rw [PyData.eqv, eqvAll_isd xs ys h1 h2]
    constructor <;> intro h
    · rw [h]
    · injection h
  | .int _, .str _, _, _ => by constructor <;> intro h <;> (first | (rw [PyData.eqv] at h; cases h) | cases h)
  | .int _, .tuple _, _, _ => by constructor <;> intro h <;> (first | (rw [PyData.eqv] at h; cases h) | cases h)
  | .int _, .list _, _, _ => by constructor <;> intro h <;> (first | (rw [PyData.eqv] at h; cases h) | cases h)
  | .str _, .int _, _, _ => by constructor <;> intro h <;> (first | (rw [PyData.eqv] at h; cases h) | cases h)
  | .str _, .tuple _, _, _ => by constructor <;> intro h <;> (first | (rw [PyData.eqv] at h; cases h) | cases h)
  | .str _, .list _, _, _ => by constructor <;> intro h <;> (first | (rw [PyData.eqv] at h; cases h) | cases h)
  | .tuple _, .int _, _, _ => by constructor <;> intro h <;> (first | (rw [PyData.eqv] at h; cases h) | cases h)
  | .tuple _, .str _, _, _ => by constructor <;> intro h <;> (first | (rw [PyData.eqv] at h; cases h) | cases h)
  | .tuple _, .list _, _, _ => by constructor <;> intro h <;> (first | (rw [PyData.eqv] at h; cases h) | cases h)
  | .list _, .int _, _, _ => by constructor <;> intro h <;> (first | (rw [PyData.eqv] at h; cases h) | cases h)
  | .list _, .str _, _, _ => by constructor <;> intro h <;> (first | (rw [PyData.eqv] at h; cases h) | cases h)
  | .list _, .tuple _, _, _ => by constructor <;> intro h <;> (first | (rw [PyData.eqv] at h; cases h) | cases h)
  | .none, _, h, _ => by simp [isd] at h
  | .bool _, _, h, _ => by simp [isd] at h
  | .dict _, _, h, _ => by simp [isd] at h
  | .int _, .none, _, h => by simp [isd] at h
  | .int _, .bool _, _, h => by simp [isd] at h
  | .int _, .dict _, _, h => by simp [isd] at h
  | .str _, .none, _, h => by simp [isd] at h
  | .str _, .bool _, _, h => by simp [isd] at h
  | .str _, .dict _, _, h => by simp [isd] at h
  | .tuple _, .none, _, h => by simp [isd] at h
  | .tuple _, .bool _, _, h => by simp [isd] at h
  | .tuple _, .dict _, _, h => by simp [isd] at h
  | .list _, .none, _, h => by simp [isd] at h
  | .list _, .bool _, _, h => by simp [isd] at h
  | .list _, .dict _, _, h => by simp [isd] at h
theorem eqvAll_isd : ∀ (xs ys : List PyData), isdAll xs = true → isdAll ys = true → (PyData.eqvAll xs ys = true ↔ xs = ys)
  | [], [], _, _ => by rw [PyData.eqvAll]; exact ⟨fun _ => rfl, fun _ => rfl⟩
  | [], y :: ys, _, _ => by constructor <;> intro h <;> (first | (rw [PyData.eqvAll] at h; cases h) | cases h)
  | x :: xs, [], _, _ => by constructor <;> intro h <;> (first | (rw [PyData.eqvAll] at h; cases h) | cases h)
  | x :: xs, y :: ys, h1, h2 => by
    rw [isdAll, Bool.and_eq_true] at h1 h2
    rw [PyData.eqvAll, Bool.and_eq_true, eqv_isd x y h1.1 h2.1, eqvAll_isd xs ys h1.2 h2.2]
    constructor
    · rintro ⟨a, b⟩; rw [a, b]
    · intro h; injection h with a b; exact ⟨a, b⟩
end
end Fld
/-! octets with a part changed -/
namespace Fld
open PySem PySem.Spec PyProof.Rows L2
def Octs (os : List Int) : Prop := ∀ o ∈ os, 0 ≤ o ∧ o < 256
def sp_law_bent_octets : Sp := fun vs H Q _ => ∃ (p c : Addr) (n : Nat) (a : Addr) (os : List Int), vs = [.ref p, .ref a] ∧ a ≠ p ∧ Pen H p c n ∧ H a = some (.lst (os.map V.int)) ∧ os.length ≤ 100000 ∧ Octs os ∧ n ≤ 700000 ∧
  ∀ (b : Addr) (bs : List Int) H', H b = none → H' b = some (.lst (bs.map V.int)) → bs.length ≤ os.length + 10 → Octs bs → Drew p c H H' (n + 20) → Q (.ref b) H'
theorem octs_take {os : List Int} (h : Octs os) (k : Nat) : Octs (os.take k) := fun o ho => h o (List.mem_of_mem_take ho)
theorem octs_drop {os : List Int} (h : Octs os) (k : Nat) : Octs (os.drop k) := fun o ho => h o (List.mem_of_mem_drop ho)
theorem octs_one {o : Int} (h : 0 ≤ o ∧ o < 256) : Octs [o] := fun x hx => by rw [List.mem_singleton.mp hx]; exact h
theorem octs_app {a b : List Int} (h1 : Octs a) (h2 : Octs b) : Octs (a ++ b) := app_oct h1 h2
theorem octs_set {os : List Int} {k : Nat} {o : Int} (h : Octs os) (ho : 0 ≤ o ∧ o < 256) : Octs (os.set k o) := fun x hx => by
  rcases List.mem_or_eq_of_mem_set hx with y | y
  · exact h x y
  · rw [y]; exact ho
theorem octs_erase {os : List Int} {k : Nat} (h : Octs os) : Octs (os.eraseIdx k) := fun x hx => h x (List.mem_of_mem_eraseIdx hx)
theorem map_erase {α β : Type} (f : α → β) : ∀ (xs : List α) (k : Nat), (xs.map f).eraseIdx k = (xs.eraseIdx k).map f
  | [], _ => rfl
  | _ :: _, 0 => rfl
  | x :: xs, k + 1 => by
    show f x :: (xs.map f).eraseIdx k = f x :: (xs.eraseIdx k).map f
    rw [map_erase f xs k]
end Fld
/-! instruction, answer or block: one of three ways -/
namespace Fld
open PySem PySem.Spec PyProof.Rows L2
inductive Th where
  | ins (i : Ins) | ans (i : Ans) | blk (b : Blk)
def Th.way : Th → Nat
  | .ins _ => 0
  | .ans _ => 1
  | .blk _ => 2
def Th.oct : Th → List Int
  | .ins i => i.oct
  | .ans i => i.oct
  | .blk b => b.oct
def Th.dat : Th → PyData
  | .ins i => i.dat
  | .ans i => i.dat
  | .blk b => b.dat
def Th.Ok : Th → Prop
  | .ins i => i.Ok
  | .ans i => i.Ok
  | .blk b => b.Ok
def ThV (K : PySem.W.Frag) (H : Hp) (v : V) : Th → Prop
  | .ins i => InsV K H v i
  | .ans i => AnsV K H v i
  | .blk b => BlkV K H v b
def readTh (w : Nat) (os : List Int) : Except Nat Th :=
  if w = 0 then (whole os takeIns).map .ins else if w = 1 then (whole os takeAns).map .ans else (whole os takeBlk).map .blk
theorem readTh_oct (t : Th) (ok : t.Ok) : readTh t.way t.oct = .ok t := by
  cases t with
  | ins i => show (whole i.oct takeIns).map Th.ins = _; rw [whole_ins i ok]; rfl
  | ans i => show (whole i.oct takeAns).map Th.ans = _; rw [whole_ans i ok]; rfl
  | blk b => show (whole b.oct takeBlk).map Th.blk = _; rw [whole_blk b ok]; rfl
theorem readTh_back {w : Nat} (hw : w < 3) {os : List Int} {t : Th} (hos : Octs os) (h : readTh w os = .ok t) : t.way = w ∧ os = t.oct ∧ t.Ok := by
  unfold readTh at h
  have : w = 0 ∨ w = 1 ∨ w = 2 := by omega
  rcases this with z | z | z <;> subst z
  · rw [if_pos rfl] at h
    cases e : whole os takeIns with
    | error z => rw [e] at h; cases h
    | ok i => rw [e] at h; cases h; exact ⟨rfl, ins_back hos e⟩
  · rw [if_neg (by decide), if_pos rfl] at h
    cases e : whole os takeAns with
    | error z => rw [e] at h; cases h
    | ok i => rw [e] at h; cases h; exact ⟨rfl, ans_back hos e⟩
  · rw [if_neg (by decide), if_neg (by decide)] at h
    cases e : whole os takeBlk with
    | error z => rw [e] at h; cases h
    | ok i => rw [e] at h; cases h; exact ⟨rfl, blk_back hos e⟩
/-- the same octets, the same thing -/
theorem oct_inj {s t : Th} (hw : s.way = t.way) (hs : s.Ok) (ht : t.Ok) (e : s.oct = t.oct) : s = t := by
  have h1 := readTh_oct s hs
  have h2 := readTh_oct t ht
  rw [hw, e, h2] at h1
  injection h1 with h1
  exact h1.symm
theorem dp_th {K : PySem.W.Frag} {H : Hp} {v : V} {t : Th} (h : ThV K H v t) : Dp K H v t.dat := by
  cases t with
  | ins i => obtain ⟨a, rfl, h⟩ := h; exact dp_ins h
  | ans i => obtain ⟨a, rfl, h⟩ := h; exact dp_ans h
  | blk b => exact dp_blk h
theorem th_octs {t : Th} (ok : t.Ok) : Octs t.oct := by
  cases t with
  | ins i => exact ins_oct ok
  | ans i => exact ans_oct ok
  | blk b => exact blk_octs ok
theorem th_len {t : Th} (ok : t.Ok) : t.oct.length ≤ 100000 := by
  cases t with
  | ins i => exact ins_oct_len ok
  | ans i => exact ans_oct_len ok
  | blk b => have := blk_len2 ok; show b.oct.length ≤ _; omega
theorem thv_keep {K : PySem.W.Frag} {H H' : Hp} {v : V} {t : Th} (s : Same H H') (h : ThV K H v t) : ThV K H' v t := by
  cases t with
  | ins i => obtain ⟨a, e, h⟩ := h; exact ⟨a, e, s.tup h⟩
  | ans i => obtain ⟨a, e, h⟩ := h; exact ⟨a, e, s.tup h⟩
  | blk b => exact BlkV.keep s h
def sp_law_write (K : PySem.W.Frag) : Sp := fun vs H Q _ => ∃ (v : V) (t : Th), vs = [.int t.way, v] ∧ ThV K H v t ∧ t.Ok ∧ RetInts t.oct H Q
def sp_law_read (K : PySem.W.Frag) : Sp := fun vs H Q _ => ∃ (w : Nat) (a : Addr) (os : List Int), vs = [.int w, .ref a] ∧ w < 3 ∧ H a = some (.lst (os.map V.int)) ∧ os.length ≤ 1000000 ∧ Octs os ∧
  (∀ z, readTh w os = .error z → ∀ H', Same H H' → Q .non H') ∧
  (∀ t, readTh w os = .ok t → ∀ (r : Addr) (v : V) H', H r = none → Same H H' → H' r = some (.tup [v]) → ThV K H' v t → Q (.ref r) H')
theorem read_end {α : Type} {N M : Addr} {f : List Int → Nat → Except Nat (α × Nat)} {R : α → V → Hp → Prop} {H : Hp} {Q : VK} {E : XK} {os : List Int} (ho : Octs os) (q : RdEnd N H Q E R (whole os f)) :
    if octV (os.map V.int) = true then ∃ os' : List Int, os.map V.int = os'.map V.int ∧ RdEnd N H Q E R (whole os' f) else ∀ H', Same H H' → E (.ref M) none H' := by
  rw [if_pos (octV_of ho)]
  exact ⟨os, rfl, q⟩
end Fld
/-! no beginning of an instruction's or an answer's octets is one, and more octets behind are none; a block with a line more -/
namespace Fld
open PySem PySem.Spec PyProof.Rows L2
theorem takeStrS (x : Str) (pre suf : List Int) (hx : txt (.str x) 0 40 = true) : takeStr (pre ++ (strOct x 7 0 ++ suf)) 7 0 0 40 pre.length = .ok (x, (pre ++ strOct x 7 0).length) := by
  have h40 := txt_len hx
  rw [takeStr_oct x 7 0 0 40 pre suf (txt_all hx) (by omega) (by omega) (by decide) (by decide), List.length_append]
theorem takeIns_suf (i : Ins) (ok : i.Ok) (suf : List Int) : takeIns (i.oct ++ suf) 0 = .ok (i, i.oct.length) := by
  have h31 : ((2 ^ 5 - 1 : Nat) : Int) = 31 := rfl
  cases i with
  | again n =>
    have hn : n ≤ 9999 := ok
    obtain ⟨o, l', e, h1, h2⟩ := numOct_head n 5 0
    have h0 : (numOct n 5 0 ++ suf)[0]? = some o := by rw [e]; rfl
    show takeIns (numOct n 5 0 ++ suf) 0 = _
    unfold takeIns
    rw [h0]
    dsimp only
    rw [if_pos (by omega), takeNum0 n 5 0 0 9999 suf (by omega) (by omega) (by decide) (by decide)]
    show Except.ok (Ins.again ((n : Nat) : Int).toNat, _) = _
    rw [Int.toNat_natCast]
    rfl
  | limit n =>
    have hn : n ≤ 9999 := ok
    obtain ⟨o, l', e, h1, h2⟩ := numOct_head n 5 32
    have h0 : (numOct n 5 32 ++ suf)[0]? = some o := by rw [e]; rfl
    show takeIns (numOct n 5 32 ++ suf) 0 = _
    unfold takeIns
    rw [h0]
    dsimp only
    rw [if_neg (by omega), if_pos (by omega), takeNum0 n 5 32 0 9999 suf (by omega) (by omega) (by decide) (by decide)]
    show Except.ok (Ins.limit ((n : Nat) : Int).toNat, _) = _
    rw [Int.toNat_natCast]
    rfl
  | fixed n x =>
    obtain ⟨o, l', e, h1, h2⟩ := numOct_head n 6 192
    have e0 : (Ins.fixed n x).oct ++ suf = numOct n 6 192 ++ (strOct x 7 0 ++ suf) := by show (numOct n 6 192 ++ strOct x 7 0) ++ suf = _; rw [List.append_assoc]
    rw [e0]
    exact ins_src _ _ (.inr (true, n)) x _ o (by rw [e]; rfl) (by omega) (src_fixed n _ ok.1) (takeStrS x _ _ ok.2)
  | entry n x =>
    obtain ⟨o, l', e, h1, h2⟩ := numOct_head n 6 128
    have e0 : (Ins.entry n x).oct ++ suf = numOct n 6 128 ++ (strOct x 7 0 ++ suf) := by show (numOct n 6 128 ++ strOct x 7 0) ++ suf = _; rw [List.append_assoc]
    rw [e0]
    exact ins_src _ _ (.inr (false, n)) x _ o (by rw [e]; rfl) (by omega) (src_entry n _ ok.1) (takeStrS x _ _ ok.2)
  | new y x =>
    obtain ⟨o, l', e, h1, h2⟩ := strOct_head y 5 64
    have e0 : (Ins.new y x).oct ++ suf = strOct y 5 64 ++ (strOct x 7 0 ++ suf) := by show (strOct y 5 64 ++ strOct x 7 0) ++ suf = _; rw [List.append_assoc]
    rw [e0]
    exact ins_src _ _ (.inl y) x _ o (by rw [e]; rfl) (by omega) (src_new y _ ok.1) (takeStrS x _ _ ok.2)
theorem takeAns_suf (i : Ans) (ok : i.Ok) (suf : List Int) : takeAns (i.oct ++ suf) 0 = .ok (i, i.oct.length) := by
  have h63 : ((2 ^ 6 - 1 : Nat) : Int) = 63 := rfl
  have h127 : ((2 ^ 7 - 1 : Nat) : Int) = 127 := rfl
  cases i with
  | done n =>
    have hn : n ≤ 20 := ok
    obtain ⟨o, l', e, h1, h2⟩ := numOct_head n 7 128
    have h0 : (numOct n 7 128 ++ suf)[0]? = some o := by rw [e]; rfl
    show takeAns (numOct n 7 128 ++ suf) 0 = _
    unfold takeAns
    rw [h0]
    dsimp only
    rw [if_pos (by omega), takeNum0 n 7 128 0 20 suf (by omega) (by omega) (by decide) (by decide)]
    show Except.ok (Ans.done ((n : Nat) : Int).toNat, _) = _
    rw [Int.toNat_natCast]
    rfl
  | cancelled n =>
    have hn : n ≤ 20 := ok
    obtain ⟨o, l', e, h1, h2⟩ := numOct_head n 6 64
    have h0 : (numOct n 6 64 ++ suf)[0]? = some o := by rw [e]; rfl
    show takeAns (numOct n 6 64 ++ suf) 0 = _
    unfold takeAns
    rw [h0]
    dsimp only
    rw [if_neg (by omega), if_pos (by omega), takeNum0 n 6 64 0 20 suf (by omega) (by omega) (by decide) (by decide)]
    show Except.ok (Ans.cancelled ((n : Nat) : Int).toNat, _) = _
    rw [Int.toNat_natCast]
    rfl
  | received n =>
    have hn := ok.1
    have hn2 := ok.2
    obtain ⟨o, l', e, h1, h2⟩ := numOct_head n 6 0
    have h0 : (numOct n 6 0 ++ suf)[0]? = some o := by rw [e]; rfl
    show takeAns (numOct n 6 0 ++ suf) 0 = _
    unfold takeAns
    rw [h0]
    dsimp only
    rw [if_neg (by omega), if_neg (by omega), takeNum0 n 6 0 1 9999 suf (by omega) (by omega) (by decide) (by decide)]
    show Except.ok (Ans.received ((n : Nat) : Int).toNat, _) = _
    rw [Int.toNat_natCast]
    rfl
/-- more octets behind -/
theorem more_none {t : Th} (hw : t.way < 2) (ok : t.Ok) {suf : List Int} (hs : 0 < suf.length) : ∃ z, readTh t.way (t.oct ++ suf) = .error z := by
  cases t with
  | ins i =>
    refine ⟨i.oct.length, ?_⟩
    show (whole (i.oct ++ suf) takeIns).map Th.ins = _
    unfold whole
    rw [takeIns_suf i ok suf]
    dsimp only
    rw [if_neg (by rw [List.length_append]; omega)]
    rfl
  | ans i =>
    refine ⟨i.oct.length, ?_⟩
    show (whole (i.oct ++ suf) takeAns).map Th.ans = _
    unfold whole
    rw [takeAns_suf i ok suf]
    dsimp only
    rw [if_neg (by rw [List.length_append]; omega)]
    rfl
  | blk b => exact absurd hw (by show ¬ 2 < 2; decide)
/-- a beginning -/
theorem cut_none {t : Th} (hw : t.way < 2) (ok : t.Ok) {k : Nat} (hk : k < t.oct.length) : ∃ z, readTh t.way (t.oct.take k) = .error z := by
  cases h : readTh t.way (t.oct.take k) with
  | error z => exact ⟨z, rfl⟩
  | ok u =>
    obtain ⟨e1, e2, e3⟩ := readTh_back (by omega) (octs_take (th_octs ok) k) h
    have es : u.oct ++ t.oct.drop k = t.oct := by rw [← e2, List.take_append_drop]
    obtain ⟨z, hz⟩ := more_none (t := u) (by omega) e3 (suf := t.oct.drop k) (by rw [List.length_drop]; omega)
    rw [es, e1, readTh_oct t ok] at hz
    cases hz
theorem th_pos (t : Th) (ok : t.Ok) : 0 < t.oct.length := by
  have nm : ∀ n b m, 0 < (numOct n b m).length := fun n b m => by
    obtain ⟨o, t, e, _⟩ := numOct_head n b m
    rw [e]; exact Nat.succ_pos _
  have st : ∀ x b m, 0 < (strOct x b m).length := fun x b m => by
    obtain ⟨o, t, e, _⟩ := strOct_head x b m
    rw [e]; exact Nat.succ_pos _
  cases t with
  | ins i =>
    cases i with
    | again n => exact nm _ _ _
    | limit n => exact nm _ _ _
    | fixed n x => show 0 < (numOct n 6 192 ++ strOct x 7 0).length; rw [List.length_append]; have := nm n 6 192; omega
    | entry n x => show 0 < (numOct n 6 128 ++ strOct x 7 0).length; rw [List.length_append]; have := nm n 6 128; omega
    | new y x => show 0 < (strOct y 5 64 ++ strOct x 7 0).length; rw [List.length_append]; have := st y 5 64; omega
  | ans i => cases i <;> exact nm _ _ _
  | blk b => show 0 < b.oct.length; unfold Blk.oct; rw [List.length_append, List.length_append]; have := nm b.req 8 0; omega
/-- a line more -/
def Blk.more (b : Blk) (l : Ln) : Blk := ⟨b.req, b.base, b.ls ++ [l]⟩
theorem more_oct (b : Blk) (l : Ln) : (b.more l).oct = b.oct ++ l.oct b.base := by
  have e : lnsOct b.base (b.ls ++ [l]) = lnsOct b.base b.ls ++ l.oct b.base := by unfold lnsOct; simp
  show (numOct b.req 8 0 ++ numOct (b.req - b.base) 8 0) ++ lnsOct b.base (b.ls ++ [l]) = ((numOct b.req 8 0 ++ numOct (b.req - b.base) 8 0) ++ lnsOct b.base b.ls) ++ l.oct b.base
  rw [e, ← List.append_assoc]
theorem more_ok {b : Blk} {l : Ln} (ok : b.Ok) (hl : l.Ok b.req) (hn : b.ls.length < 16) : (b.more l).Ok := by
  refine ⟨ok.req_, ok.base_, by show (b.ls ++ [l]).length ≤ 16; rw [List.length_append]; show b.ls.length + 1 ≤ 16; omega, fun x hx => ?_⟩
  rcases List.mem_append.mp hx with h | h
  · exact ok.lns_ x h
  · rw [List.mem_singleton.mp h]; exact hl
end Fld
/-! data that == compares -/
namespace Fld
open PySem PySem.Spec PyProof.Rows L2
theorem strOk_txt {x : Str} (h : x.cps.toList.all isChar = true) : PyData.strOk x = true := by
  show x.cps.all (· < 0x110000) = true
  rw [← Array.all_toList]
  refine List.all_eq_true.mpr fun c hc => decide_eq_true ?_
  have h1 : (charCodes.all fun c => decide (c < 0x110000)) = true := by decide
  exact of_decide_eq_true (List.all_eq_true.mp h1 c (List.contains_iff_mem.mp (List.all_eq_true.mp h c hc)))
theorem isd_th (t : Th) : isd t.dat = true := by
  have lns : ∀ ls : List Ln, isdAll (ls.map Ln.dat) = true := by
    intro ls
    induction ls with
    | nil => rfl
    | cons l ls ih =>
      show (isd l.dat && isdAll (ls.map Ln.dat)) = true
      rw [ih]
      cases l <;> rfl
  cases t with
  | ins i => cases i <;> rfl
  | ans i => cases i <;> rfl
  | blk b => show (true && (true && (isdAll (b.ls.map Ln.dat) && true))) = true; rw [lns]; rfl
theorem isd_ints (os : List Int) : isdAll (os.map PyData.int) = true := by
  induction os with
  | nil => rfl
  | cons o os ih => show (true && isdAll (os.map PyData.int)) = true; rw [ih]; rfl
theorem lay_ints (os : List Int) : PyData.canLayAll0 (os.map PyData.int) = true := by
  induction os with
  | nil => rfl
  | cons o os ih => rw [List.map_cons, PyData.canLayAll0, PyData.canLay0, ih]; rfl
theorem lay_ln {r : Nat} {l : Ln} (ok : l.Ok r) : l.dat.canLay0 = true := by
  have S : ∀ x : Str, PyData.strOk x = true → (PyData.str x).canLay0 = true := fun x h => by rw [PyData.canLay0]; exact h
  have two : ∀ (a b : PyData), a.canLay0 = true → b.canLay0 = true → (PyData.tuple [a, b]).canLay0 = true := fun a b ha hb => by simp [PyData.canLay0, PyData.canLayAll0, ha, hb]
  have three : ∀ (a b c : PyData), a.canLay0 = true → b.canLay0 = true → c.canLay0 = true → (PyData.tuple [a, b, c]).canLay0 = true := fun a b c ha hb hc => by simp [PyData.canLay0, PyData.canLayAll0, ha, hb, hc]
  have I : ∀ n : Nat, (PyData.int (n : Nat)).canLay0 = true := fun n => by rw [PyData.canLay0]
  cases l with
  | fix1 n => exact two _ _ (S _ (by decide +kernel)) (I n)
  | fix2 n x => exact three _ _ _ (S _ (by decide +kernel)) (I n) (S _ (strOk_txt (txt_all ok.2)))
  | ent1 n => exact two _ _ (S _ (by decide +kernel)) (I n)
  | ent2 n x => exact three _ _ _ (S _ (by decide +kernel)) (I n) (S _ (strOk_txt (txt_all ok.2)))
  | out y x => exact three _ _ _ (S _ (by decide +kernel)) (S _ (strOk_txt (txt_all ok.1))) (S _ (strOk_txt (txt_all ok.2)))
theorem lay_th {t : Th} (ok : t.Ok) : t.dat.canLay0 = true := by
  have S : ∀ x : Str, PyData.strOk x = true → (PyData.str x).canLay0 = true := fun x h => by rw [PyData.canLay0]; exact h
  have two : ∀ (a b : PyData), a.canLay0 = true → b.canLay0 = true → (PyData.tuple [a, b]).canLay0 = true := fun a b ha hb => by simp [PyData.canLay0, PyData.canLayAll0, ha, hb]
  have three : ∀ (a b c : PyData), a.canLay0 = true → b.canLay0 = true → c.canLay0 = true → (PyData.tuple [a, b, c]).canLay0 = true := fun a b c ha hb hc => by simp [PyData.canLay0, PyData.canLayAll0, ha, hb, hc]
  have I : ∀ n : Nat, (PyData.int (n : Nat)).canLay0 = true := fun n => by rw [PyData.canLay0]
  cases t with
  | ins i =>
    cases i with
    | again n => exact two _ _ (S _ (by decide +kernel)) (I n)
    | limit n => exact two _ _ (S _ (by decide +kernel)) (I n)
    | fixed n x => exact three _ _ _ (S _ (by decide +kernel)) (I n) (S _ (strOk_txt (txt_all ok.2)))
    | entry n x => exact three _ _ _ (S _ (by decide +kernel)) (I n) (S _ (strOk_txt (txt_all ok.2)))
    | new y x => exact three _ _ _ (S _ (by decide +kernel)) (S _ (strOk_txt (txt_all ok.1))) (S _ (strOk_txt (txt_all ok.2)))
  | ans i =>
    cases i with
    | done n => exact two _ _ (S _ (by decide +kernel)) (I n)
    | cancelled n => exact two _ _ (S _ (by decide +kernel)) (I n)
    | received n => exact two _ _ (S _ (by decide +kernel)) (I n)
  | blk b =>
    have lns : ∀ ls : List Ln, (∀ l ∈ ls, l.Ok b.req) → PyData.canLayAll0 (ls.map Ln.dat) = true := by
      intro ls
      induction ls with
      | nil => intro _; rfl
      | cons l ls ih =>
        intro h
        rw [List.map_cons, PyData.canLayAll0, lay_ln (h l (List.mem_cons_self ..)), ih fun x hx => h x (List.mem_cons_of_mem _ hx)]
        rfl
    exact three _ _ _ (I _) (I _) (by rw [PyData.canLay0]; exact lns b.ls ok.lns_)
theorem dle_th (n : Nat) {t : Th} (ok : t.Ok) : DLe (n + 3) t.dat := by
  cases t with
  | ins i => exact dle_ins (n + 2) i
  | ans i => exact dle_ans (n + 2) i
  | blk b => exact dle_blk n ok
theorem shp_th {t : Th} (ok : t.Ok) : SeqAt.shaped t.dat = true := by
  have h := dle_depth _ _ (dle_th 0 ok)
  show (t.dat.canLay0 && decide (t.dat.depth ≤ 64)) = true
  rw [lay_th ok, decide_eq_true (by omega)]
  rfl
theorem shp_one {t : Th} (ok : t.Ok) : SeqAt.shaped (.tuple [t.dat]) = true := by
  have h0 : DLe 4 (.tuple [t.dat]) := ⟨by show 1 ≤ 100000; decide, fun d hd => by rw [List.mem_singleton.mp hd]; exact dle_th 0 ok⟩
  have h := dle_depth _ _ h0
  show (PyData.canLay0 (.tuple [t.dat]) && decide (PyData.depth (.tuple [t.dat]) ≤ 64)) = true
  rw [decide_eq_true (by omega)]
  simp [PyData.canLay0, PyData.canLayAll0, lay_th ok]
theorem shp_ints {os : List Int} (h : os.length ≤ 100000) : SeqAt.shaped (.list (os.map PyData.int)) = true := by
  have h1 := dle_depth _ _ (dle_ints h 0)
  show (PyData.canLay0 (.list (os.map PyData.int)) && decide (PyData.depth (.list (os.map PyData.int)) ≤ 64)) = true
  rw [decide_eq_true (by omega), PyData.canLay0, lay_ints]
  rfl
theorem str_ne {a b : String} (h : ((Str.ofString a) == (Str.ofString b)) = false) : Str.ofString a ≠ Str.ofString b := fun e => by rw [e] at h; rw [beq_self_eq_true] at h; cases h
theorem ln_inj (l m : Ln) (h : l.dat = m.dat) : l = m := by
  have n1 : Str.ofString "fixed" ≠ Str.ofString "entry" := str_ne (by decide +kernel)
  have n2 : Str.ofString "fixed" ≠ Str.ofString "out" := str_ne (by decide +kernel)
  have n3 : Str.ofString "entry" ≠ Str.ofString "out" := str_ne (by decide +kernel)
  cases l <;> cases m <;> simp only [Ln.dat, PyData.tuple.injEq, List.cons.injEq, PyData.str.injEq, PyData.int.injEq, Int.natCast_inj, and_true, true_and, reduceCtorEq, false_and, and_false, n1, n2, n3, n1.symm, n2.symm, n3.symm] at h <;> simp_all
theorem lns_inj : ∀ a b : List Ln, a.map Ln.dat = b.map Ln.dat → a = b
  | [], [], _ => rfl
  | [], _ :: _, h => by cases h
  | _ :: _, [], h => by cases h
  | l :: a, m :: b, h => by
    injection h with h1 h2
    rw [ln_inj l m h1, lns_inj a b h2]
theorem ins_inj (l m : Ins) (h : l.dat = m.dat) : l = m := by
  have n1 : Str.ofString "again" ≠ Str.ofString "limit" := str_ne (by decide +kernel)
  have n2 : Str.ofString "fixed" ≠ Str.ofString "entry" := str_ne (by decide +kernel)
  have n3 : Str.ofString "fixed" ≠ Str.ofString "new" := str_ne (by decide +kernel)
  have n4 : Str.ofString "entry" ≠ Str.ofString "new" := str_ne (by decide +kernel)
  cases l <;> cases m <;> simp only [Ins.dat, PyData.tuple.injEq, List.cons.injEq, PyData.str.injEq, PyData.int.injEq, Int.natCast_inj, and_true, true_and, reduceCtorEq, false_and, and_false, n1, n2, n3, n4, n1.symm, n2.symm, n3.symm, n4.symm] at h <;> simp_all
theorem ans_inj (l m : Ans) (h : l.dat = m.dat) : l = m := by
  have n1 : Str.ofString "done" ≠ Str.ofString "cancelled" := str_ne (by decide +kernel)
  have n2 : Str.ofString "done" ≠ Str.ofString "received" := str_ne (by decide +kernel)
  have n3 : Str.ofString "cancelled" ≠ Str.ofString "received" := str_ne (by decide +kernel)
  cases l <;> cases m <;> simp only [Ans.dat, PyData.tuple.injEq, List.cons.injEq, PyData.str.injEq, PyData.int.injEq, Int.natCast_inj, and_true, true_and, reduceCtorEq, false_and, and_false, n1, n2, n3, n1.symm, n2.symm, n3.symm] at h <;> simp_all
theorem dat_inj {s t : Th} (hw : s.way = t.way) (h : s.dat = t.dat) : s = t := by
  cases s with
  | ins i => cases t with
    | ins j => rw [ins_inj i j h]
    | ans j => cases hw
    | blk j => cases hw
  | ans i => cases t with
    | ins j => cases hw
    | ans j => rw [ans_inj i j h]
    | blk j => cases hw
  | blk b => cases t with
    | ins j => cases hw
    | ans j => cases hw
    | blk c =>
      obtain ⟨r1, b1, l1⟩ := b
      obtain ⟨r2, b2, l2⟩ := c
      have h' : PyData.tuple [.int (r1 : Nat), .int (b1 : Nat), .tuple (l1.map Ln.dat)] = PyData.tuple [.int (r2 : Nat), .int (b2 : Nat), .tuple (l2.map Ln.dat)] := h
      simp only [PyData.tuple.injEq, List.cons.injEq, PyData.int.injEq, Int.natCast_inj, and_true] at h'
      obtain ⟨e1, e2, e3⟩ := h'
      rw [e1, e2, lns_inj l1 l2 e3]
/-- the same by the octets and by the data -/
theorem same_both {s t : Th} (hw : s.way = t.way) (hs : s.Ok) (ht : t.Ok) : PyData.eqv (.list (s.oct.map PyData.int)) (.list (t.oct.map PyData.int)) = PyData.eqv s.dat t.dat := by
  have h1 := eqv_isd (.list (s.oct.map PyData.int)) (.list (t.oct.map PyData.int)) (by rw [isd]; exact isd_ints _) (by rw [isd]; exact isd_ints _)
  have h2 := eqv_isd s.dat t.dat (isd_th s) (isd_th t)
  rw [Bool.eq_iff_iff, h1, h2]
  constructor
  · intro h
    injection h with h
    have e : s.oct = t.oct := List.map_inj_right (f := PyData.int) (fun _ _ z => by injection z) |>.mp h
    rw [oct_inj hw hs ht e]
  · intro h
    rw [dat_inj hw h]
theorem eqv_self {d : PyData} (h : isd d = true) : PyData.eqv d d = true := (eqv_isd d d h h).mpr rfl
end Fld
/-! three things in a list -/
namespace Fld
open PySem PySem.Spec PyProof.Rows L2
theorem thv_but {K : PySem.W.Frag} {H H' : Hp} {p : Addr} {v : V} {t : Th} (b : But p H H') (n1 : ∀ ys, H p ≠ some (.tup ys)) (n2 : ∀ o w, H p ≠ some (.frz o w)) (h : ThV K H v t) : ThV K H' v t := by
  cases t with
  | ins i => obtain ⟨a, e, h⟩ := h; exact ⟨a, e, sqT_but h b n1 n2⟩
  | ans i => obtain ⟨a, e, h⟩ := h; exact ⟨a, e, sqT_but h b n1 n2⟩
  | blk c => obtain ⟨a, t, xs, e, h1, h2, h3⟩ := h; exact ⟨a, t, xs, e, sqT_but h1 b n1 n2, sqT_but h2 b n1 n2, lns_but b n1 n2 h3⟩
/-- the list at th holds the three things ts -/
structure Things (K : PySem.W.Frag) (H : Hp) (p th : Addr) (xs : List V) (ts : Nat → Th) : Prop where
  g : H th = some (.lst xs)
  ne : th ≠ p
  at_ : ∀ w, w < 3 → ∃ v, xs[w]? = some v ∧ ThV K H v (ts w) ∧ (ts w).way = w ∧ (ts w).Ok
theorem Things.keep {K : PySem.W.Frag} {H H' : Hp} {p th : Addr} {xs : List V} {ts : Nat → Th} (h : Things K H p th xs ts) (s : Same H H') : Things K H' p th xs ts :=
  ⟨s _ _ h.g, h.ne, fun w hw => let ⟨v, e, h1, h2⟩ := h.at_ w hw; ⟨v, e, thv_keep s h1, h2⟩⟩
theorem Things.drew {K : PySem.W.Frag} {H H' : Hp} {p c th : Addr} {n m : Nat} {xs : List V} {ts : Nat → Th} (h : Things K H p th xs ts) (P : Pen H p c m) (d : Drew p c H H' n) : Things K H' p th xs ts := by
  obtain ⟨⟨ps, hp⟩, _⟩ := P.some
  have n1 : ∀ ys, H p ≠ some (.tup ys) := by rw [hp]; intro ys z; cases z
  have n2 : ∀ o w, H p ≠ some (.frz o w) := by rw [hp]; intro o w z; cases z
  exact ⟨d.but th _ h.ne h.g, h.ne, fun w hw => let ⟨v, e, h1, h2⟩ := h.at_ w hw; ⟨v, e, thv_but d.but n1 n2 h1, h2⟩⟩
def three (a b c : Th) : Nat → Th
  | 0 => a
  | 1 => b
  | _ => c
end Fld
namespace Fld
open PySem PySem.Spec PyProof.Rows L2
/-! ### the text by places -/
def top (i : Nat) : Stmt := PySem.Challenge.pw_fieldtable_k15_whole_octets.main.body.getD i (.Pass ⟨0, 0, 0, 0⟩)
abbrev s_NoOctets_init : Stmt := inClass (top 4) 0
abbrev s_is_between : Stmt := top 12
abbrev s_is_number : Stmt := top 13
abbrev s_is_stream : Stmt := top 14
abbrev s_is_text : Stmt := top 15
abbrev s_is_name : Stmt := top 16
abbrev s_is_value : Stmt := top 17
abbrev s_are_octets : Stmt := top 18
abbrev s_check_octets : Stmt := top 19
abbrev s_check_prefix : Stmt := top 20
abbrev s_prefix_bits : Stmt := top 21
abbrev s_number_octets : Stmt := top 22
abbrev s_string_octets : Stmt := top 23
abbrev s_value_octets : Stmt := top 24
abbrev s_Reader_init : Stmt := inClass (top 25) 0
abbrev s_Reader_at_end : Stmt := inClass (top 25) 1
abbrev s_Reader_look : Stmt := inClass (top 25) 2
abbrev s_Reader_accept : Stmt := inClass (top 25) 3
abbrev s_Reader_finish : Stmt := inClass (top 25) 4
abbrev s_Reader_take_number : Stmt := inClass (top 25) 5
abbrev s_Reader_take_rest : Stmt := inClass (top 25) 6
abbrev s_Reader_take_string : Stmt := inClass (top 25) 7
abbrev s_Reader_take_name : Stmt := inClass (top 25) 8
abbrev s_Reader_take_value : Stmt := inClass (top 25) 9
abbrev s_is_line : Stmt := top 28
abbrev s_is_block : Stmt := top 29
abbrev s_write_block : Stmt := top 30
abbrev s_line_octets : Stmt := top 31
abbrev s_whole_octets : Stmt := top 32
abbrev s_named_octets : Stmt := top 33
abbrev s_read_block : Stmt := top 34
abbrev s_take_line : Stmt := top 35
abbrev s_take_whole : Stmt := top 36
abbrev s_take_named : Stmt := top 37
abbrev s_is_instruction : Stmt := top 39
abbrev s_write_instruction : Stmt := top 40
abbrev s_source_octets : Stmt := top 41
abbrev s_read_instruction : Stmt := top 42
abbrev s_take_instruction : Stmt := top 43
abbrev s_take_source : Stmt := top 44
abbrev s_is_answer : Stmt := top 45
abbrev s_write_answer : Stmt := top 46
abbrev s_read_answer : Stmt := top 47
abbrev s_take_answer : Stmt := top 48
abbrev s_law_open : Stmt := top 50
abbrev s_law_spread : Stmt := top 51
abbrev s_law_take : Stmt := top 52
abbrev s_law_one_of : Stmt := top 53
abbrev s_law_signs : Stmt := top 54
abbrev s_law_draw_text : Stmt := top 55
abbrev s_law_draw_number : Stmt := top 56
abbrev s_law_draw_instruction : Stmt := top 57
abbrev s_law_draw_answer : Stmt := top 58
abbrev s_law_draw_line : Stmt := top 59
abbrev s_law_draw_block : Stmt := top 60
abbrev s_law_bent_octets : Stmt := top 61
abbrev s_law_read : Stmt := top 62
abbrev s_law_write : Stmt := top 63
abbrev s_law : Stmt := top 64
/-- what the top has written -/
structure Txt (K : PySem.W.Frag) (mg : Str → Option Value) where
  f_NoOctets_init : Addr
  d_NoOctets_init : FuncData
  F_NoOctets_init : Fun K "__init__" "NoOctets.__init__" s_NoOctets_init f_NoOctets_init d_NoOctets_init
  b_NoOctets_init : Binds K d_NoOctets_init ["self", "place"] []
  f_is_between : Addr
  d_is_between : FuncData
  F_is_between : Fun K "is_between" "is_between" s_is_between f_is_between d_is_between
  b_is_between : Binds K d_is_between ["thing", "least", "most"] []
  g_is_between : mg "is_between" = some (.ref f_is_between)
  f_is_number : Addr
  d_is_number : FuncData
  F_is_number : Fun K "is_number" "is_number" s_is_number f_is_number d_is_number
  b_is_number : Binds K d_is_number ["thing"] []
  g_is_number : mg "is_number" = some (.ref f_is_number)
  f_is_stream : Addr
  d_is_stream : FuncData
  F_is_stream : Fun K "is_stream" "is_stream" s_is_stream f_is_stream d_is_stream
  b_is_stream : Binds K d_is_stream ["thing"] []
  g_is_stream : mg "is_stream" = some (.ref f_is_stream)
  f_is_text : Addr
  d_is_text : FuncData
  F_is_text : Fun K "is_text" "is_text" s_is_text f_is_text d_is_text
  b_is_text : Binds K d_is_text ["thing", "least", "most"] []
  g_is_text : mg "is_text" = some (.ref f_is_text)
  f_is_name : Addr
  d_is_name : FuncData
  F_is_name : Fun K "is_name" "is_name" s_is_name f_is_name d_is_name
  b_is_name : Binds K d_is_name ["thing"] []
  g_is_name : mg "is_name" = some (.ref f_is_name)
  f_is_value : Addr
  d_is_value : FuncData
  F_is_value : Fun K "is_value" "is_value" s_is_value f_is_value d_is_value
  b_is_value : Binds K d_is_value ["thing"] []
  g_is_value : mg "is_value" = some (.ref f_is_value)
  f_are_octets : Addr
  d_are_octets : FuncData
  F_are_octets : Fun K "are_octets" "are_octets" s_are_octets f_are_octets d_are_octets
  b_are_octets : Binds K d_are_octets ["thing"] []
  g_are_octets : mg "are_octets" = some (.ref f_are_octets)
  f_check_octets : Addr
  d_check_octets : FuncData
  F_check_octets : Fun K "check_octets" "check_octets" s_check_octets f_check_octets d_check_octets
  b_check_octets : Binds K d_check_octets ["octets"] []
  g_check_octets : mg "check_octets" = some (.ref f_check_octets)
  f_check_prefix : Addr
  d_check_prefix : FuncData
  F_check_prefix : Fun K "check_prefix" "check_prefix" s_check_prefix f_check_prefix d_check_prefix
  b_check_prefix : Binds K d_check_prefix ["prefix", "mark"] []
  g_check_prefix : mg "check_prefix" = some (.ref f_check_prefix)
  f_prefix_bits : Addr
  d_prefix_bits : FuncData
  F_prefix_bits : Fun K "prefix_bits" "prefix_bits" s_prefix_bits f_prefix_bits d_prefix_bits
  b_prefix_bits : Binds K d_prefix_bits ["prefix"] []
  g_prefix_bits : mg "prefix_bits" = some (.ref f_prefix_bits)
  f_number_octets : Addr
  d_number_octets : FuncData
  F_number_octets : Fun K "number_octets" "number_octets" s_number_octets f_number_octets d_number_octets
  b_number_octets : Binds K d_number_octets ["number", "prefix", "mark"] []
  g_number_octets : mg "number_octets" = some (.ref f_number_octets)
  f_string_octets : Addr
  d_string_octets : FuncData
  F_string_octets : Fun K "string_octets" "string_octets" s_string_octets f_string_octets d_string_octets
  b_string_octets : Binds K d_string_octets ["text", "prefix", "mark"] []
  g_string_octets : mg "string_octets" = some (.ref f_string_octets)
  f_value_octets : Addr
  d_value_octets : FuncData
  F_value_octets : Fun K "value_octets" "value_octets" s_value_octets f_value_octets d_value_octets
  b_value_octets : Binds K d_value_octets ["value"] []
  g_value_octets : mg "value_octets" = some (.ref f_value_octets)
  f_Reader_init : Addr
  d_Reader_init : FuncData
  F_Reader_init : Fun K "__init__" "Reader.__init__" s_Reader_init f_Reader_init d_Reader_init
  b_Reader_init : Binds K d_Reader_init ["self", "octets"] []
  f_Reader_at_end : Addr
  d_Reader_at_end : FuncData
  F_Reader_at_end : Fun K "at_end" "Reader.at_end" s_Reader_at_end f_Reader_at_end d_Reader_at_end
  b_Reader_at_end : Binds K d_Reader_at_end ["self"] []
  f_Reader_look : Addr
  d_Reader_look : FuncData
  F_Reader_look : Fun K "look" "Reader.look" s_Reader_look f_Reader_look d_Reader_look
  b_Reader_look : Binds K d_Reader_look ["self"] []
  f_Reader_accept : Addr
  d_Reader_accept : FuncData
  F_Reader_accept : Fun K "accept" "Reader.accept" s_Reader_accept f_Reader_accept d_Reader_accept
  b_Reader_accept : Binds K d_Reader_accept ["self", "fits"] []
  f_Reader_finish : Addr
  d_Reader_finish : FuncData
  F_Reader_finish : Fun K "finish" "Reader.finish" s_Reader_finish f_Reader_finish d_Reader_finish
  b_Reader_finish : Binds K d_Reader_finish ["self"] []
  f_Reader_take_number : Addr
  d_Reader_take_number : FuncData
  F_Reader_take_number : Fun K "take_number" "Reader.take_number" s_Reader_take_number f_Reader_take_number d_Reader_take_number
  b_Reader_take_number : Binds K d_Reader_take_number ["self", "prefix", "mark", "least", "most"] []
  f_Reader_take_rest : Addr
  d_Reader_take_rest : FuncData
  F_Reader_take_rest : Fun K "take_rest" "Reader.take_rest" s_Reader_take_rest f_Reader_take_rest d_Reader_take_rest
  b_Reader_take_rest : Binds K d_Reader_take_rest ["self", "most"] []
  f_Reader_take_string : Addr
  d_Reader_take_string : FuncData
  F_Reader_take_string : Fun K "take_string" "Reader.take_string" s_Reader_take_string f_Reader_take_string d_Reader_take_string
  b_Reader_take_string : Binds K d_Reader_take_string ["self", "prefix", "mark", "least", "most"] []
  f_Reader_take_name : Addr
  d_Reader_take_name : FuncData
  F_Reader_take_name : Fun K "take_name" "Reader.take_name" s_Reader_take_name f_Reader_take_name d_Reader_take_name
  b_Reader_take_name : Binds K d_Reader_take_name ["self", "prefix", "mark"] []
  f_Reader_take_value : Addr
  d_Reader_take_value : FuncData
  F_Reader_take_value : Fun K "take_value" "Reader.take_value" s_Reader_take_value f_Reader_take_value d_Reader_take_value
  b_Reader_take_value : Binds K d_Reader_take_value ["self"] []
  f_is_line : Addr
  d_is_line : FuncData
  F_is_line : Fun K "is_line" "is_line" s_is_line f_is_line d_is_line
  b_is_line : Binds K d_is_line ["thing", "required"] []
  g_is_line : mg "is_line" = some (.ref f_is_line)
  f_is_block : Addr
  d_is_block : FuncData
  F_is_block : Fun K "is_block" "is_block" s_is_block f_is_block d_is_block
  b_is_block : Binds K d_is_block ["thing"] []
  g_is_block : mg "is_block" = some (.ref f_is_block)
  f_write_block : Addr
  d_write_block : FuncData
  F_write_block : Fun K "write_block" "write_block" s_write_block f_write_block d_write_block
  b_write_block : Binds K d_write_block ["block"] []
  g_write_block : mg "write_block" = some (.ref f_write_block)
  f_line_octets : Addr
  d_line_octets : FuncData
  F_line_octets : Fun K "line_octets" "line_octets" s_line_octets f_line_octets d_line_octets
  b_line_octets : Binds K d_line_octets ["line", "base"] []
  g_line_octets : mg "line_octets" = some (.ref f_line_octets)
  f_whole_octets : Addr
  d_whole_octets : FuncData
  F_whole_octets : Fun K "whole_octets" "whole_octets" s_whole_octets f_whole_octets d_whole_octets
  b_whole_octets : Binds K d_whole_octets ["kind", "number", "base"] []
  g_whole_octets : mg "whole_octets" = some (.ref f_whole_octets)
  f_named_octets : Addr
  d_named_octets : FuncData
  F_named_octets : Fun K "named_octets" "named_octets" s_named_octets f_named_octets d_named_octets
  b_named_octets : Binds K d_named_octets ["kind", "number", "base"] []
  g_named_octets : mg "named_octets" = some (.ref f_named_octets)
  f_read_block : Addr
  d_read_block : FuncData
  F_read_block : Fun K "read_block" "read_block" s_read_block f_read_block d_read_block
  b_read_block : Binds K d_read_block ["octets"] []
  g_read_block : mg "read_block" = some (.ref f_read_block)
  f_take_line : Addr
  d_take_line : FuncData
  F_take_line : Fun K "take_line" "take_line" s_take_line f_take_line d_take_line
  b_take_line : Binds K d_take_line ["reader", "required", "base"] []
  g_take_line : mg "take_line" = some (.ref f_take_line)
  f_take_whole : Addr
  d_take_whole : FuncData
  F_take_whole : Fun K "take_whole" "take_whole" s_take_whole f_take_whole d_take_whole
  b_take_whole : Binds K d_take_whole ["reader", "required", "base"] []
  g_take_whole : mg "take_whole" = some (.ref f_take_whole)
  f_take_named : Addr
  d_take_named : FuncData
  F_take_named : Fun K "take_named" "take_named" s_take_named f_take_named d_take_named
  b_take_named : Binds K d_take_named ["reader", "required", "base"] []
  g_take_named : mg "take_named" = some (.ref f_take_named)
  f_is_instruction : Addr
  d_is_instruction : FuncData
  F_is_instruction : Fun K "is_instruction" "is_instruction" s_is_instruction f_is_instruction d_is_instruction
  b_is_instruction : Binds K d_is_instruction ["thing"] []
  g_is_instruction : mg "is_instruction" = some (.ref f_is_instruction)
  f_write_instruction : Addr
  d_write_instruction : FuncData
  F_write_instruction : Fun K "write_instruction" "write_instruction" s_write_instruction f_write_instruction d_write_instruction
  b_write_instruction : Binds K d_write_instruction ["instruction"] []
  g_write_instruction : mg "write_instruction" = some (.ref f_write_instruction)
  f_source_octets : Addr
  d_source_octets : FuncData
  F_source_octets : Fun K "source_octets" "source_octets" s_source_octets f_source_octets d_source_octets
  b_source_octets : Binds K d_source_octets ["kind", "source"] []
  g_source_octets : mg "source_octets" = some (.ref f_source_octets)
  f_read_instruction : Addr
  d_read_instruction : FuncData
  F_read_instruction : Fun K "read_instruction" "read_instruction" s_read_instruction f_read_instruction d_read_instruction
  b_read_instruction : Binds K d_read_instruction ["octets"] []
  g_read_instruction : mg "read_instruction" = some (.ref f_read_instruction)
  f_take_instruction : Addr
  d_take_instruction : FuncData
  F_take_instruction : Fun K "take_instruction" "take_instruction" s_take_instruction f_take_instruction d_take_instruction
  b_take_instruction : Binds K d_take_instruction ["reader"] []
  g_take_instruction : mg "take_instruction" = some (.ref f_take_instruction)
  f_take_source : Addr
  d_take_source : FuncData
  F_take_source : Fun K "take_source" "take_source" s_take_source f_take_source d_take_source
  b_take_source : Binds K d_take_source ["reader"] []
  g_take_source : mg "take_source" = some (.ref f_take_source)
  f_is_answer : Addr
  d_is_answer : FuncData
  F_is_answer : Fun K "is_answer" "is_answer" s_is_answer f_is_answer d_is_answer
  b_is_answer : Binds K d_is_answer ["thing"] []
  g_is_answer : mg "is_answer" = some (.ref f_is_answer)
  f_write_answer : Addr
  d_write_answer : FuncData
  F_write_answer : Fun K "write_answer" "write_answer" s_write_answer f_write_answer d_write_answer
  b_write_answer : Binds K d_write_answer ["answer"] []
  g_write_answer : mg "write_answer" = some (.ref f_write_answer)
  f_read_answer : Addr
  d_read_answer : FuncData
  F_read_answer : Fun K "read_answer" "read_answer" s_read_answer f_read_answer d_read_answer
  b_read_answer : Binds K d_read_answer ["octets"] []
  g_read_answer : mg "read_answer" = some (.ref f_read_answer)
  f_take_answer : Addr
  d_take_answer : FuncData
  F_take_answer : Fun K "take_answer" "take_answer" s_take_answer f_take_answer d_take_answer
  b_take_answer : Binds K d_take_answer ["reader"] []
  g_take_answer : mg "take_answer" = some (.ref f_take_answer)
  f_law_open : Addr
  d_law_open : FuncData
  F_law_open : Fun K "_law_open" "_law_open" s_law_open f_law_open d_law_open
  b_law_open : Binds K d_law_open ["script"] []
  g_law_open : mg "_law_open" = some (.ref f_law_open)
  f_law_spread : Addr
  d_law_spread : FuncData
  F_law_spread : Fun K "_law_spread" "_law_spread" s_law_spread f_law_spread d_law_spread
  b_law_spread : Binds K d_law_spread ["cell", "at"] []
  g_law_spread : mg "_law_spread" = some (.ref f_law_spread)
  f_law_take : Addr
  d_law_take : FuncData
  F_law_take : Fun K "_law_take" "_law_take" s_law_take f_law_take d_law_take
  b_law_take : Binds K d_law_take ["pen", "amount"] []
  g_law_take : mg "_law_take" = some (.ref f_law_take)
  f_law_one_of : Addr
  d_law_one_of : FuncData
  F_law_one_of : Fun K "_law_one_of" "_law_one_of" s_law_one_of f_law_one_of d_law_one_of
  b_law_one_of : Binds K d_law_one_of ["pen", "some"] []
  g_law_one_of : mg "_law_one_of" = some (.ref f_law_one_of)
  f_law_signs : Addr
  d_law_signs : FuncData
  F_law_signs : Fun K "_law_signs" "_law_signs" s_law_signs f_law_signs d_law_signs
  b_law_signs : Binds K d_law_signs [] []
  g_law_signs : mg "_law_signs" = some (.ref f_law_signs)
  f_law_draw_text : Addr
  d_law_draw_text : FuncData
  F_law_draw_text : Fun K "_law_draw_text" "_law_draw_text" s_law_draw_text f_law_draw_text d_law_draw_text
  b_law_draw_text : Binds K d_law_draw_text ["pen", "least", "most"] []
  g_law_draw_text : mg "_law_draw_text" = some (.ref f_law_draw_text)
  f_law_draw_number : Addr
  d_law_draw_number : FuncData
  F_law_draw_number : Fun K "_law_draw_number" "_law_draw_number" s_law_draw_number f_law_draw_number d_law_draw_number
  b_law_draw_number : Binds K d_law_draw_number ["pen"] []
  g_law_draw_number : mg "_law_draw_number" = some (.ref f_law_draw_number)
  f_law_draw_instruction : Addr
  d_law_draw_instruction : FuncData
  F_law_draw_instruction : Fun K "_law_draw_instruction" "_law_draw_instruction" s_law_draw_instruction f_law_draw_instruction d_law_draw_instruction
  b_law_draw_instruction : Binds K d_law_draw_instruction ["pen"] []
  g_law_draw_instruction : mg "_law_draw_instruction" = some (.ref f_law_draw_instruction)
  f_law_draw_answer : Addr
  d_law_draw_answer : FuncData
  F_law_draw_answer : Fun K "_law_draw_answer" "_law_draw_answer" s_law_draw_answer f_law_draw_answer d_law_draw_answer
  b_law_draw_answer : Binds K d_law_draw_answer ["pen"] []
  g_law_draw_answer : mg "_law_draw_answer" = some (.ref f_law_draw_answer)
  f_law_draw_line : Addr
  d_law_draw_line : FuncData
  F_law_draw_line : Fun K "_law_draw_line" "_law_draw_line" s_law_draw_line f_law_draw_line d_law_draw_line
  b_law_draw_line : Binds K d_law_draw_line ["pen", "required"] []
  g_law_draw_line : mg "_law_draw_line" = some (.ref f_law_draw_line)
  f_law_draw_block : Addr
  d_law_draw_block : FuncData
  F_law_draw_block : Fun K "_law_draw_block" "_law_draw_block" s_law_draw_block f_law_draw_block d_law_draw_block
  b_law_draw_block : Binds K d_law_draw_block ["pen"] []
  g_law_draw_block : mg "_law_draw_block" = some (.ref f_law_draw_block)
  f_law_bent_octets : Addr
  d_law_bent_octets : FuncData
  F_law_bent_octets : Fun K "_law_bent_octets" "_law_bent_octets" s_law_bent_octets f_law_bent_octets d_law_bent_octets
  b_law_bent_octets : Binds K d_law_bent_octets ["pen", "octets"] []
  g_law_bent_octets : mg "_law_bent_octets" = some (.ref f_law_bent_octets)
  f_law_read : Addr
  d_law_read : FuncData
  F_law_read : Fun K "_law_read" "_law_read" s_law_read f_law_read d_law_read
  b_law_read : Binds K d_law_read ["way", "octets"] []
  g_law_read : mg "_law_read" = some (.ref f_law_read)
  f_law_write : Addr
  d_law_write : FuncData
  F_law_write : Fun K "_law_write" "_law_write" s_law_write f_law_write d_law_write
  b_law_write : Binds K d_law_write ["way", "thing"] []
  g_law_write : mg "_law_write" = some (.ref f_law_write)
  f_law : Addr
  d_law : FuncData
  F_law : Fun K "law" "law" s_law f_law d_law
  b_law : Binds K d_law ["script"] []
  g_law : mg "law" = some (.ref f_law)
  C_FieldError : Addr
  m_FieldError : Value
  B_FieldError : BaseC K mg "FieldError" C_FieldError m_FieldError
  R_FieldError : RootC K C_FieldError
  C_NoValue : Addr
  P_NoValue : PlainC K mg "NoValue" C_NoValue [.type "ValueError", .type "Exception", .type "BaseException", .type "object"]
  S_NoValue : HeirC K C_NoValue C_FieldError
  C_NoOctetList : Addr
  P_NoOctetList : PlainC K mg "NoOctetList" C_NoOctetList [.type "ValueError", .type "Exception", .type "BaseException", .type "object"]
  S_NoOctetList : HeirC K C_NoOctetList C_FieldError
  C_NoOctets : Addr
  E_NoOctets : ErrC K mg "NoOctets" "place" C_NoOctets f_NoOctets_init
  S_NoOctets : HeirC K C_NoOctets C_FieldError
  C_Reader : Addr
  cl_Reader : Cls K C_Reader
  g_Reader : mg "Reader" = some (.ref C_Reader)
  M_Reader : Mk K C_Reader f_Reader_init
  nA_Reader_octets : NoAttr K C_Reader "octets"
  nA_Reader_place : NoAttr K C_Reader "place"
  m_Reader_at_end : Meth K C_Reader "at_end" f_Reader_at_end
  m_Reader_look : Meth K C_Reader "look" f_Reader_look
  m_Reader_accept : Meth K C_Reader "accept" f_Reader_accept
  m_Reader_finish : Meth K C_Reader "finish" f_Reader_finish
  m_Reader_take_number : Meth K C_Reader "take_number" f_Reader_take_number
  m_Reader_take_rest : Meth K C_Reader "take_rest" f_Reader_take_rest
  m_Reader_take_string : Meth K C_Reader "take_string" f_Reader_take_string
  m_Reader_take_name : Meth K C_Reader "take_name" f_Reader_take_name
  m_Reader_take_value : Meth K C_Reader "take_value" f_Reader_take_value
  SE_NoOctets : PySem.W.exmOne K (.ref C_NoOctets) (.ref C_NoOctets) = some true
  t_NUMBER_MOST : Tok
  g_NUMBER_MOST : mg "NUMBER_MOST" = some (.int 9999 t_NUMBER_MOST)
  t_STREAM_MOST : Tok
  g_STREAM_MOST : mg "STREAM_MOST" = some (.int 20 t_STREAM_MOST)
  t_NAME_MOST : Tok
  g_NAME_MOST : mg "NAME_MOST" = some (.int 20 t_NAME_MOST)
  t_VALUE_MOST : Tok
  g_VALUE_MOST : mg "VALUE_MOST" = some (.int 40 t_VALUE_MOST)
  t_VALUE_PREFIX : Tok
  g_VALUE_PREFIX : mg "VALUE_PREFIX" = some (.int 7 t_VALUE_PREFIX)
  a_CHARACTERS : Addr
  g_CHARACTERS : mg "CHARACTERS" = some (.ref a_CHARACTERS)
  CHARACTERS_d : IDict K a_CHARACTERS chars
  t_LINES_MOST : Tok
  g_LINES_MOST : mg "LINES_MOST" = some (.int 16 t_LINES_MOST)
  z_all : mg "all" = none
  z_bool : mg "bool" = none
  z_enumerate : mg "enumerate" = none
  z_int : mg "int" = none
  z_isinstance : mg "isinstance" = none
  z_len : mg "len" = none
  z_list : mg "list" = none
  z_max : mg "max" = none
  z_min : mg "min" = none
  z_ord : mg "ord" = none
  z_range : mg "range" = none
  z_str : mg "str" = none
  z_tuple : mg "tuple" = none
theorem sc_NoOctets_init : FnScope ["self", "place"] ["self", "place"] (defScope s_NoOctets_init) := ⟨rfl, rfl, rfl, by decide +kernel, rfl, by decide +kernel, by decide +kernel⟩
theorem sc_is_between : FnScope ["thing", "least", "most"] ["thing", "least", "most"] (defScope s_is_between) := ⟨rfl, rfl, rfl, by decide +kernel, rfl, by decide +kernel, by decide +kernel⟩
theorem sc_is_number : FnScope ["thing"] ["thing"] (defScope s_is_number) := ⟨rfl, rfl, rfl, by decide +kernel, rfl, by decide +kernel, by decide +kernel⟩
theorem sc_is_stream : FnScope ["thing"] ["thing"] (defScope s_is_stream) := ⟨rfl, rfl, rfl, by decide +kernel, rfl, by decide +kernel, by decide +kernel⟩
theorem sc_is_text : FnScope ["thing", "least", "most", "character"] ["thing", "least", "most"] (defScope s_is_text) := ⟨rfl, rfl, rfl, by decide +kernel, rfl, by decide +kernel, by decide +kernel⟩
theorem sc_is_name : FnScope ["thing"] ["thing"] (defScope s_is_name) := ⟨rfl, rfl, rfl, by decide +kernel, rfl, by decide +kernel, by decide +kernel⟩
theorem sc_is_value : FnScope ["thing"] ["thing"] (defScope s_is_value) := ⟨rfl, rfl, rfl, by decide +kernel, rfl, by decide +kernel, by decide +kernel⟩
theorem sc_are_octets : FnScope ["thing", "octet"] ["thing"] (defScope s_are_octets) := ⟨rfl, rfl, rfl, by decide +kernel, rfl, by decide +kernel, by decide +kernel⟩
theorem sc_check_octets : FnScope ["octets"] ["octets"] (defScope s_check_octets) := ⟨rfl, rfl, rfl, by decide +kernel, rfl, by decide +kernel, by decide +kernel⟩
theorem sc_check_prefix : FnScope ["prefix", "mark"] ["prefix", "mark"] (defScope s_check_prefix) := ⟨rfl, rfl, rfl, by decide +kernel, rfl, by decide +kernel, by decide +kernel⟩
theorem sc_prefix_bits : FnScope ["prefix"] ["prefix"] (defScope s_prefix_bits) := ⟨rfl, rfl, rfl, by decide +kernel, rfl, by decide +kernel, by decide +kernel⟩
theorem sc_number_octets : FnScope ["number", "prefix", "mark", "bits", "octets", "rest"] ["number", "prefix", "mark"] (defScope s_number_octets) := ⟨rfl, rfl, rfl, by decide +kernel, rfl, by decide +kernel, by decide +kernel⟩
theorem sc_string_octets : FnScope ["text", "prefix", "mark", "character"] ["text", "prefix", "mark"] (defScope s_string_octets) := ⟨rfl, rfl, rfl, by decide +kernel, rfl, by decide +kernel, by decide +kernel⟩
theorem sc_value_octets : FnScope ["value"] ["value"] (defScope s_value_octets) := ⟨rfl, rfl, rfl, by decide +kernel, rfl, by decide +kernel, by decide +kernel⟩
theorem sc_Reader_init : FnScope ["self", "octets"] ["self", "octets"] (defScope s_Reader_init) := ⟨rfl, rfl, rfl, by decide +kernel, rfl, by decide +kernel, by decide +kernel⟩
theorem sc_Reader_at_end : FnScope ["self"] ["self"] (defScope s_Reader_at_end) := ⟨rfl, rfl, rfl, by decide +kernel, rfl, by decide +kernel, by decide +kernel⟩
theorem sc_Reader_look : FnScope ["self"] ["self"] (defScope s_Reader_look) := ⟨rfl, rfl, rfl, by decide +kernel, rfl, by decide +kernel, by decide +kernel⟩
theorem sc_Reader_accept : FnScope ["self", "fits"] ["self", "fits"] (defScope s_Reader_accept) := ⟨rfl, rfl, rfl, by decide +kernel, rfl, by decide +kernel, by decide +kernel⟩
theorem sc_Reader_finish : FnScope ["self"] ["self"] (defScope s_Reader_finish) := ⟨rfl, rfl, rfl, by decide +kernel, rfl, by decide +kernel, by decide +kernel⟩
theorem sc_Reader_take_number : FnScope ["self", "prefix", "mark", "least", "most", "bits", "number"] ["self", "prefix", "mark", "least", "most"] (defScope s_Reader_take_number) := ⟨rfl, rfl, rfl, by decide +kernel, rfl, by decide +kernel, by decide +kernel⟩
theorem sc_Reader_take_rest : FnScope ["self", "most", "rest", "weight", "last"] ["self", "most"] (defScope s_Reader_take_rest) := ⟨rfl, rfl, rfl, by decide +kernel, rfl, by decide +kernel, by decide +kernel⟩
theorem sc_Reader_take_string : FnScope ["self", "prefix", "mark", "least", "most", "length", "text", "_", "octet"] ["self", "prefix", "mark", "least", "most"] (defScope s_Reader_take_string) := ⟨rfl, rfl, rfl, by decide +kernel, rfl, by decide +kernel, by decide +kernel⟩
theorem sc_Reader_take_name : FnScope ["self", "prefix", "mark"] ["self", "prefix", "mark"] (defScope s_Reader_take_name) := ⟨rfl, rfl, rfl, by decide +kernel, rfl, by decide +kernel, by decide +kernel⟩
theorem sc_Reader_take_value : FnScope ["self"] ["self"] (defScope s_Reader_take_value) := ⟨rfl, rfl, rfl, by decide +kernel, rfl, by decide +kernel, by decide +kernel⟩
theorem sc_is_line : FnScope ["thing", "required"] ["thing", "required"] (defScope s_is_line) := ⟨rfl, rfl, rfl, by decide +kernel, rfl, by decide +kernel, by decide +kernel⟩
theorem sc_is_block : FnScope ["thing", "required", "base", "lines", "line"] ["thing"] (defScope s_is_block) := ⟨rfl, rfl, rfl, by decide +kernel, rfl, by decide +kernel, by decide +kernel⟩
theorem sc_write_block : FnScope ["block", "required", "base", "lines", "octets", "line"] ["block"] (defScope s_write_block) := ⟨rfl, rfl, rfl, by decide +kernel, rfl, by decide +kernel, by decide +kernel⟩
theorem sc_line_octets : FnScope ["line", "base", "kind"] ["line", "base"] (defScope s_line_octets) := ⟨rfl, rfl, rfl, by decide +kernel, rfl, by decide +kernel, by decide +kernel⟩
theorem sc_whole_octets : FnScope ["kind", "number", "base"] ["kind", "number", "base"] (defScope s_whole_octets) := ⟨rfl, rfl, rfl, by decide +kernel, rfl, by decide +kernel, by decide +kernel⟩
theorem sc_named_octets : FnScope ["kind", "number", "base"] ["kind", "number", "base"] (defScope s_named_octets) := ⟨rfl, rfl, rfl, by decide +kernel, rfl, by decide +kernel, by decide +kernel⟩
theorem sc_read_block : FnScope ["octets", "reader", "required", "base", "lines"] ["octets"] (defScope s_read_block) := ⟨rfl, rfl, rfl, by decide +kernel, rfl, by decide +kernel, by decide +kernel⟩
theorem sc_take_line : FnScope ["reader", "required", "base", "first", "name", "kind", "number"] ["reader", "required", "base"] (defScope s_take_line) := ⟨rfl, rfl, rfl, by decide +kernel, rfl, by decide +kernel, by decide +kernel⟩
theorem sc_take_whole : FnScope ["reader", "required", "base", "first"] ["reader", "required", "base"] (defScope s_take_whole) := ⟨rfl, rfl, rfl, by decide +kernel, rfl, by decide +kernel, by decide +kernel⟩
theorem sc_take_named : FnScope ["reader", "required", "base", "first"] ["reader", "required", "base"] (defScope s_take_named) := ⟨rfl, rfl, rfl, by decide +kernel, rfl, by decide +kernel, by decide +kernel⟩
theorem sc_is_instruction : FnScope ["thing", "kind", "source", "value"] ["thing"] (defScope s_is_instruction) := ⟨rfl, rfl, rfl, by decide +kernel, rfl, by decide +kernel, by decide +kernel⟩
theorem sc_write_instruction : FnScope ["instruction", "kind"] ["instruction"] (defScope s_write_instruction) := ⟨rfl, rfl, rfl, by decide +kernel, rfl, by decide +kernel, by decide +kernel⟩
theorem sc_source_octets : FnScope ["kind", "source"] ["kind", "source"] (defScope s_source_octets) := ⟨rfl, rfl, rfl, by decide +kernel, rfl, by decide +kernel, by decide +kernel⟩
theorem sc_read_instruction : FnScope ["octets", "reader", "instruction"] ["octets"] (defScope s_read_instruction) := ⟨rfl, rfl, rfl, by decide +kernel, rfl, by decide +kernel, by decide +kernel⟩
theorem sc_take_instruction : FnScope ["reader", "first", "kind", "source"] ["reader"] (defScope s_take_instruction) := ⟨rfl, rfl, rfl, by decide +kernel, rfl, by decide +kernel, by decide +kernel⟩
theorem sc_take_source : FnScope ["reader", "first"] ["reader"] (defScope s_take_source) := ⟨rfl, rfl, rfl, by decide +kernel, rfl, by decide +kernel, by decide +kernel⟩
theorem sc_is_answer : FnScope ["thing", "kind", "number"] ["thing"] (defScope s_is_answer) := ⟨rfl, rfl, rfl, by decide +kernel, rfl, by decide +kernel, by decide +kernel⟩
theorem sc_write_answer : FnScope ["answer", "kind", "number"] ["answer"] (defScope s_write_answer) := ⟨rfl, rfl, rfl, by decide +kernel, rfl, by decide +kernel, by decide +kernel⟩
theorem sc_read_answer : FnScope ["octets", "reader", "answer"] ["octets"] (defScope s_read_answer) := ⟨rfl, rfl, rfl, by decide +kernel, rfl, by decide +kernel, by decide +kernel⟩
theorem sc_take_answer : FnScope ["reader", "first"] ["reader"] (defScope s_take_answer) := ⟨rfl, rfl, rfl, by decide +kernel, rfl, by decide +kernel, by decide +kernel⟩
theorem sc_law_open : FnScope ["script", "cells", "k", "cell"] ["script"] (defScope s_law_open) := ⟨rfl, rfl, rfl, by decide +kernel, rfl, by decide +kernel, by decide +kernel⟩
theorem sc_law_spread : FnScope ["cell", "at", "primes", "one", "two", "three"] ["cell", "at"] (defScope s_law_spread) := ⟨rfl, rfl, rfl, by decide +kernel, rfl, by decide +kernel, by decide +kernel⟩
theorem sc_law_take : FnScope ["pen", "amount", "at", "cell", "found"] ["pen", "amount"] (defScope s_law_take) := ⟨rfl, rfl, rfl, by decide +kernel, rfl, by decide +kernel, by decide +kernel⟩
theorem sc_law_one_of : FnScope ["pen", "some"] ["pen", "some"] (defScope s_law_one_of) := ⟨rfl, rfl, rfl, by decide +kernel, rfl, by decide +kernel, by decide +kernel⟩
theorem sc_law_signs : FnScope [] [] (defScope s_law_signs) := ⟨rfl, rfl, rfl, by decide +kernel, rfl, by decide +kernel, by decide +kernel⟩
theorem sc_law_draw_text : FnScope ["pen", "least", "most", "size", "k"] ["pen", "least", "most"] (defScope s_law_draw_text) := ⟨rfl, rfl, rfl, by decide +kernel, rfl, by decide +kernel, by decide +kernel⟩
theorem sc_law_draw_number : FnScope ["pen", "near", "some"] ["pen"] (defScope s_law_draw_number) := ⟨rfl, rfl, rfl, by decide +kernel, rfl, by decide +kernel, by decide +kernel⟩
theorem sc_law_draw_instruction : FnScope ["pen", "word"] ["pen"] (defScope s_law_draw_instruction) := ⟨rfl, rfl, rfl, by decide +kernel, rfl, by decide +kernel, by decide +kernel⟩
theorem sc_law_draw_answer : FnScope ["pen", "word"] ["pen"] (defScope s_law_draw_answer) := ⟨rfl, rfl, rfl, by decide +kernel, rfl, by decide +kernel, by decide +kernel⟩
theorem sc_law_draw_line : FnScope ["pen", "required", "word", "number"] ["pen", "required"] (defScope s_law_draw_line) := ⟨rfl, rfl, rfl, by decide +kernel, rfl, by decide +kernel, by decide +kernel⟩
theorem sc_law_draw_block : FnScope ["pen", "required", "base", "many", "again"] ["pen"] (defScope s_law_draw_block) := ⟨rfl, rfl, rfl, by decide +kernel, rfl, by decide +kernel, by decide +kernel⟩
theorem sc_law_bent_octets : FnScope ["pen", "octets", "found", "way", "spot", "odd", "again"] ["pen", "octets"] (defScope s_law_bent_octets) := ⟨rfl, rfl, rfl, by decide +kernel, rfl, by decide +kernel, by decide +kernel⟩
theorem sc_law_read : FnScope ["way", "octets"] ["way", "octets"] (defScope s_law_read) := ⟨rfl, rfl, rfl, by decide +kernel, rfl, by decide +kernel, by decide +kernel⟩
theorem sc_law_write : FnScope ["way", "thing"] ["way", "thing"] (defScope s_law_write) := ⟨rfl, rfl, rfl, by decide +kernel, rfl, by decide +kernel, by decide +kernel⟩
theorem sc_law : FnScope ["script", "pen", "turn", "things", "others", "way", "octets", "other", "row", "found", "spot", "required", "base", "lines", "line", "more"] ["script"] (defScope s_law) := ⟨rfl, rfl, rfl, by decide +kernel, rfl, by decide +kernel, by decide +kernel⟩
section
variable {P : Program} {w : World} {K : PySem.W.Frag} {mg : Str → Option Value} {base : Heap}
theorem ok_is_between (T : Txt K mg) : FnOk P w K mg base CX0 1 T.f_is_between T.d_is_between ["thing", "least", "most"] (sp_is_between K) := by
  refine T.F_is_between.ok sc_is_between (fun vs H Q E h => ?_) (fun cdv A outer s H vs Q E hr h => ?_)
  · obtain ⟨v, t, a, b, rfl, _⟩ := h
    rfl
  · obtain ⟨v, t, a, b, rfl, k, q⟩ := h
    refine ⟨_, (pss_one (ps_ret (pe_and (pe_callB call_isi rfl T.z_isinstance boot_isinstance (pa_cons (pv 0) (pa_cons (pe_bltn (v := .ty "int") rfl T.z_int boot_int rfl) pa_nil))) (pe_and (pe_not (pe_callB call_isi rfl T.z_isinstance boot_isinstance (pa_cons (pv 0) (pa_cons (pe_bltn (v := .ty "bool") rfl T.z_bool boot_bool rfl) pa_nil)))) (pe_one (pe_chain op_le op_le (pv 1) (pv 0) (pv 2))))))), ?_⟩
    refine ⟨_, rfl, _, _, _, _, _, rfl, .ty _, k.ty, k.kit, _, rfl, ifb (fun e => ?_) (fun e => ?_)⟩
    · refine ⟨_, rfl, _, _, _, _, _, rfl, .ty _, k.ty, k.kit, _, rfl, _, rfl, ifb (fun e2 => ?_) (fun e2 => ?_)⟩
      · have ei : t = "int" := by
          cases k <;> first | rfl | (exfalso; revert e e2; decide)
        cases k <;> first | (exact absurd ei (by decide)) | skip
        rename_i i
        refine ⟨_, rfl, _, rfl, _, _, rfl, rfl, _, rfl, ifb (fun e3 => ?_) (fun e3 => ?_)⟩
        · exact ⟨_, rfl, _, _, rfl, rfl, Q_bl q (by show (decide _ && decide _) = _; rw [e3]; rfl)⟩
        · exact Q_bl q (by show (decide _ && decide _) = _; rw [e3]; rfl)
      · refine Q_bl q ?_
        cases k <;> first | rfl | (exfalso; revert e e2; decide)
    · refine Q_bl q ?_
      cases k <;> first | rfl | (exfalso; revert e; decide)

theorem ok_is_number (T : Txt K mg) : FnOk P w K mg base CX0 2 T.f_is_number T.d_is_number ["thing"] (sp_is_number K) := by
  refine T.F_is_number.ok sc_is_number (fun vs H Q E h => ?_) (fun cdv A outer s H vs Q E hr h => ?_)
  · obtain ⟨v, t, rfl, _⟩ := h
    rfl
  · obtain ⟨v, t, rfl, k, q⟩ := h
    refine ⟨_, (pss_one (ps_ret (pe_call (ok_is_between T) (hr.mono (by decide)) rfl T.g_is_between T.F_is_between.kp T.b_is_between .nil pass0 (pa_cons (pv 0) (pa_cons pe_int (pa_cons (pe_glob (v := .int 9999) rfl T.g_NUMBER_MOST ⟨_, rfl⟩) pa_nil)))))), ?_⟩
    exact ⟨_, rfl, v, t, 0, 9999, rfl, k, q⟩
theorem ok_is_text (T : Txt K mg) : FnOk P w K mg base CX0 1 T.f_is_text T.d_is_text ["thing", "least", "most"] (sp_is_text K) := by
  refine T.F_is_text.ok sc_is_text (fun vs H Q E h => ?_) (fun cdv A outer s H vs Q E hr h => ?_)
  · obtain ⟨v, t, a, b, rfl, _⟩ := h
    rfl
  · obtain ⟨v, t, a, b, rfl, k, hz, q⟩ := h
    refine ⟨_, (pss_cons (ps_if (PW.pt (pw_or (pt_not (pt_val (pe_callB call_isi rfl T.z_isinstance boot_isinstance (pa_cons (pv 0) (pa_cons (pe_bltn (v := .ty "str") rfl T.z_str boot_str rfl) pa_nil))))) (pw_or1 (pt_not (pt_chain op_le op_le (pv 1) (pe_callB call_len rfl T.z_len boot_len (pa_cons (pv 0) pa_nil)) (pv 2)))))) (pss_one (ps_ret pe_bl)) pss_nil)
      (pss_one (ps_ret (pe_callB (cr_all rfl) rfl T.z_all boot_all (pa_cons (pe_lc (own := [("character", 3)]) (g := (gName 3)) (tt := tYes)  rfl sc_is_text.nd (pi_str (pv 0)) (blkOk_by (own := [("character", 3)]) (N := ["thing", "least", "most", "character"]) (sc := defScope s_is_text) (by decide +kernel)) (fun _ _ _ _ _ => (pg_name (i := 3) sc_is_text.nd rfl (Or.inl rfl))) (fun _ _ _ _ _ => pts_nil) (fun _ _ _ _ _ => (pe_cmpR (op_in_kdI T.CHARACTERS_d) (pe_callB call_ord rfl T.z_ord boot_ord (pa_cons (pv 3) pa_nil)) (pe_glob (v := .ref T.a_CHARACTERS) rfl T.g_CHARACTERS rfl) rfl))) pa_nil))))), ?_⟩
    refine ⟨_, rfl, _, _, _, _, _, rfl, .ty _, k.ty, k.kit, _, rfl, ?_⟩
    refine ifb (fun e => ?_) (fun e => ?_)
    · refine iteT ?_
      refine Q_bl (q H (Same.refl _)) ?_
      cases k <;> first | rfl | (exfalso; revert e; decide)
    · cases k <;> first | (exfalso; revert e; decide) | skip
      rename_i x
      have hx := hz x rfl
      refine ⟨_, rfl, _, rfl, _, _, rfl, ⟨len100 hx, rfl⟩, _, _, rfl, rfl, _, rfl, ifb (fun e2 => ?_) (fun e2 => ?_)⟩
      · refine ⟨_, rfl, _, _, rfl, rfl, _, rfl, ?_⟩
        refine ifb (fun e3 => ?_) (fun e3 => ?_)
        · refine Q_bl (q H (Same.refl _)) ?_
          show (_ && _ && _) = false
          have e3' : decide ((x.length : Int) ≤ b) = false := by simpa using e3
          rw [e3', Bool.and_false, Bool.false_and]
        · have e3' : decide ((x.length : Int) ≤ b) = true := by simpa using e3
          refine ⟨_, rfl, _, rfl, fun D hD => ?_⟩
          refine lc_map walk_str (fun i => V.bl (isChar (x.cps.toList.getD i 0))) (by show x.length ≤ 1000000; omega) hD (fun _ _ => True.intro) ?_ ?_
          · rintro i y H' H'' Q' Z hi s1 ⟨rfl, c, hc, rfl⟩ q'
            refine ⟨rfl, yesI ?_⟩
            refine ⟨_, rfl, _, rfl, rfl, _, rfl, rfl, ?_⟩
            have e4 : x.cps.toList.getD i 0 = c := getD_of 0 (cps_at hc)
            have e5 : (⟨#[c]⟩ : Str).cps.getD 0 0 = c := rfl
            have := q' H'' (Same.refl _)
            rw [e4] at this
            rw [e5, valI_chars]
            cases hcc : isChar c
            · rw [hcc] at this; exact this
            · rw [hcc] at this; exact this
          · intro H' s1 hD'
            refine ⟨_, x.cps.toList.map isChar, rfl, .inl (.inl ?_), ?_⟩
            · rw [hD']
              have : (List.range x.cps.size).map (fun i => V.bl (isChar (x.cps.toList.getD i 0))) = (x.cps.toList.map isChar).map V.bl := by
                rw [List.map_map]
                exact range_map x.cps.toList (fun c => V.bl (isChar c)) 0
              rw [this]
            · refine Q_bl (q H' s1) ?_
              show (_ && _ && _) = _
              rw [e2, e3']
              simp [List.all_map]
      · refine ⟨_, rfl, ?_⟩
        refine iteT ?_
        refine Q_bl (q H (Same.refl _)) ?_
        show (_ && _ && _) = false
        rw [e2, Bool.false_and, Bool.false_and]
theorem ok_is_value (T : Txt K mg) : FnOk P w K mg base CX0 2 T.f_is_value T.d_is_value ["thing"] (sp_is_value K) := by
  refine T.F_is_value.ok sc_is_value (fun vs H Q E h => ?_) (fun cdv A outer s H vs Q E hr h => ?_)
  · obtain ⟨v, t, rfl, _⟩ := h
    rfl
  · obtain ⟨v, t, rfl, k, hz, q⟩ := h
    refine ⟨_, (pss_one (ps_ret (pe_call (ok_is_text T) (hr.mono (by decide)) rfl T.g_is_text T.F_is_text.kp T.b_is_text .nil pass0 (pa_cons (pv 0) (pa_cons pe_int (pa_cons (pe_glob (v := .int 40) rfl T.g_VALUE_MOST ⟨_, rfl⟩) pa_nil)))))), ?_⟩
    exact ⟨_, rfl, v, t, 0, 40, rfl, k, hz, q⟩
theorem ok_prefix_bits (T : Txt K mg) : FnOk P w K mg base CX0 1 T.f_prefix_bits T.d_prefix_bits ["prefix"] sp_prefix_bits := by
  refine T.F_prefix_bits.ok sc_prefix_bits (fun vs H Q E h => ?_) (fun cdv A outer s H vs Q E hr h => ?_)
  · obtain ⟨b, rfl, _⟩ := h
    rfl
  · obtain ⟨b, rfl, hb, q⟩ := h
    refine ⟨_, (pss_one (ps_ret (pe_op op_sub (pe_op op_shl pe_int (pv 0)) pe_int))), ?_⟩
    refine ⟨_, rfl, _, _, rfl, rfl, ⟨by omega, by omega, by decide⟩, _, _, rfl, rfl, ?_⟩
    refine Q_int q ?_
    rw [Int.toNat_natCast, Int.one_mul]

theorem ok_check_prefix (T : Txt K mg) : FnOk P w K mg base CX0 2 T.f_check_prefix T.d_check_prefix ["prefix", "mark"] sp_check_prefix := by
  refine T.F_check_prefix.ok sc_check_prefix (fun vs H Q E h => ?_) (fun cdv A outer s H vs Q E hr h => ?_)
  · obtain ⟨b, m, rfl, _⟩ := h
    rfl
  · obtain ⟨b, m, rfl, ⟨hb1, hb8, hm, hz⟩, q⟩ := h
    refine ⟨_, (pss_cons (ps_if (pt_not (pt_val (pe_call (ok_is_between T) (hr.mono (by decide)) rfl T.g_is_between T.F_is_between.kp T.b_is_between .nil pass0 (pa_cons (pv 0) (pa_cons pe_int (pa_cons pe_int pa_nil)))))) (pss_one ps_never) pss_nil)
      (pss_one (ps_if (PW.pt (pw_or (pt_not (pt_val (pe_call (ok_is_between T) (hr.mono (by decide)) rfl T.g_is_between T.F_is_between.kp T.b_is_between .nil pass0 (pa_cons (pv 1) (pa_cons pe_int (pa_cons pe_int pa_nil)))))) (pw_or1 (pt_cmpR op_ne (pe_op op_and (pv 1) (pe_call (ok_prefix_bits T) (hr.mono (by decide)) rfl T.g_prefix_bits T.F_prefix_bits.kp T.b_prefix_bits .nil pass0 (pa_cons (pv 0) pa_nil))) pe_int (nomark _))))) (pss_one ps_never) pss_nil))), ?_⟩
    refine ⟨_, rfl, .int b, "int", 1, 8, rfl, .int _, _, rfl, ?_⟩
    have e1 : btw (.int (b : Nat)) 1 8 = true := btw_t (by omega) (by omega)
    refine ifF (by rw [e1]; rfl) ?_
    have e2 : btw (.int (m : Nat)) 0 255 = true := btw_t (by omega) (by omega)
    refine ⟨_, rfl, .int m, "int", 0, 255, rfl, .int _, _, rfl, ?_⟩
    refine ifF (by rw [e2]; rfl) ?_
    refine ⟨_, rfl, _, rfl, b, rfl, by omega, _, _, rfl, rfl, rfl, _, rfl, ?_⟩
    refine ifF ?_ q
    rw [bits_cast]
    show (!decide (V.int (Builtin.bitAnd (m : Int) ((2 ^ b - 1 : Nat) : Int)) = V.int 0)) = false
    rw [hz]
    rfl
theorem ok_number_octets (T : Txt K mg) : FnOk P w K mg base CX0 3 T.f_number_octets T.d_number_octets ["number", "prefix", "mark"] sp_number_octets := by
  refine T.F_number_octets.ok sc_number_octets (fun vs H Q E h => ?_) (fun cdv A outer s H vs Q E hr h => ?_)
  · obtain ⟨n, b, m, rfl, _⟩ := h
    rfl
  · obtain ⟨n, b, m, rfl, hn, M, q⟩ := h
    obtain ⟨hb1, hb8, hm, hz⟩ := id M
    refine ⟨_, (pss_cons (ps_if (pt_not (pt_val (pe_call (ok_is_number T) (hr.mono (by decide)) rfl T.g_is_number T.F_is_number.kp T.b_is_number .nil pass0 (pa_cons (pv 0) pa_nil)))) (pss_one ps_never) pss_nil)
      (pss_cons (ps_expr (pe_call (ok_check_prefix T) (hr.mono (by decide)) rfl T.g_check_prefix T.F_check_prefix.kp T.b_check_prefix .nil pass0 (pa_cons (pv 1) (pa_cons (pv 2) pa_nil))))
      (pss_cons (ps_set (i := 3) sc_number_octets.nd rfl (Or.inl rfl) (pe_call (ok_prefix_bits T) (hr.mono (by decide)) rfl T.g_prefix_bits T.F_prefix_bits.kp T.b_prefix_bits .nil pass0 (pa_cons (pv 1) pa_nil)))
      (pss_cons (ps_if (pt_cmpR op_lt (pv 0) (pv 3) (nomark _)) (pss_one (ps_ret (pe_lst (pa_cons (pe_op op_add (pv 2) (pv 0)) pa_nil)))) pss_nil)
      (pss_cons (ps_set (i := 4) sc_number_octets.nd rfl (Or.inl rfl) (pe_lst (pa_cons (pe_op op_add (pv 2) (pv 3)) pa_nil)))
      (pss_cons (ps_set (i := 5) sc_number_octets.nd rfl (Or.inl rfl) (pe_op op_sub (pv 0) (pv 3)))
      (pss_cons (ps_while PassesOwn.never (pt_cmpR op_ge (pv 5) pe_int (nomark _))
        (pss_cons (ps_expr (pe_bm PySem.F.plainAttrs_list PySem.F.slot_list_append PySem.F.type_list_append mt_append (pv 4) (pa_cons (pe_op op_add pe_int (pe_op op_and (pv 5) pe_int)) pa_nil)))
      (pss_one (ps_set (i := 5) sc_number_octets.nd rfl (Or.inl rfl) (pe_op op_shr (pv 5) pe_int)))))
      (pss_cons (ps_expr (pe_bm PySem.F.plainAttrs_list PySem.F.slot_list_append PySem.F.type_list_append mt_append (pv 4) (pa_cons (pv 5) pa_nil)))
      (pss_one (ps_ret (pv 4))))))))))), ?_⟩
    have e1 : btw (.int (n : Nat)) 0 9999 = true := btw_t (by omega) (by omega)
    refine ⟨_, rfl, .int n, "int", rfl, .int _, _, rfl, ?_⟩
    refine ifF (by rw [e1]; rfl) ?_
    refine ⟨_, rfl, _, rfl, b, m, rfl, M, ?_⟩
    refine ⟨_, rfl, b, rfl, by omega, ?_⟩
    refine ⟨_, rfl, _, rfl, _, _, rfl, rfl, _, rfl, ?_⟩
    have hp := pow_pos2 b
    have hp8 := pow_le8 hb8
    have eb := bits_cast b
    by_cases c : n < 2 ^ b - 1
    · refine ifT (decide_eq_true (by rw [eb]; omega)) ?_
      refine ⟨_, rfl, _, rfl, _, _, rfl, rfl, (by show 1 ≤ sizeLine; rw [sizeLine_eq]; omega), fun p hp' => ?_⟩
      refine q p _ hp' (Same.new hp') ?_
      rw [upd_same]
      unfold numOct
      rw [if_pos c]
      rfl
    · refine ifF (decide_eq_false (by rw [eb]; omega)) ?_
      refine ⟨_, rfl, _, rfl, _, _, rfl, rfl, (by show 1 ≤ sizeLine; rw [sizeLine_eq]; omega), fun p hp' => ?_⟩
      refine ⟨_, rfl, _, rfl, _, _, rfl, rfl, ?_⟩
      have eN : numOct n b m = [((m + (2 ^ b - 1) : Nat) : Int)] ++ restOct (n - (2 ^ b - 1)) := by
        unfold numOct
        rw [if_neg c]
        rfl
      have hl := numOct_len n b m
      refine ⟨fun k σ H' => ∃ acc : List Int, σ = [some (.int (n : Nat)), some (.int (b : Nat)), some (.int (m : Nat)), some (.int (2 ^ b - 1)), some (.ref p), some (.int (k : Nat))] ∧ Same H H' ∧ H' p = some (.lst (acc.map V.int)) ∧ acc ++ restOct k = numOct n b m,
        ⟨n - (2 ^ b - 1), [((m + (2 ^ b - 1) : Nat) : Int)], ?_, Same.new hp', ?_, eN.symm⟩, ?_⟩
      · have e : ((n : Int) - (2 ^ b - 1)) = ((n - (2 ^ b - 1) : Nat) : Int) := by rw [eb]; omega
        rw [← e]
        rfl
      · rw [upd_same, eb]
        rfl
      · rintro k σ H' ⟨acc, rfl, s1, hl', ha⟩
        refine ⟨_, rfl, _, _, rfl, rfl, _, rfl, ?_⟩
        by_cases ck : k < 128
        · refine ifF (decide_eq_false (by omega)) ?_
          refine ⟨_, rfl, .inl ⟨rfl, _, SqL.of hl'⟩, _, rfl, p, _, _, rfl, rfl, hl', ?_, ?_⟩
          · rw [List.length_map, sizeLine_eq]
            have : acc.length ≤ (numOct n b m).length := by rw [← ha]; simp
            omega
          · refine ⟨_, rfl, ?_⟩
            refine q p _ hp' (s1.put hp') ?_
            rw [upd_same, ← ha, restOct_lt ck, List.map_append]
            rfl
        · refine ifT (decide_eq_true (by omega)) ?_
          refine ⟨fun σ' H'' => ∃ acc : List Int, σ' = [some (.int (n : Nat)), some (.int (b : Nat)), some (.int (m : Nat)), some (.int (2 ^ b - 1)), some (.ref p), some (.int ((k / 128 : Nat) : Int))] ∧ Same H H'' ∧ H'' p = some (.lst (acc.map V.int)) ∧ acc ++ restOct (k / 128) = numOct n b m,
            fun σ' H'' h => ⟨k / 128, by omega, h⟩, ?_⟩
          refine ⟨_, rfl, .inl ⟨rfl, _, SqL.of hl'⟩, _, rfl, _, _, rfl, rfl, _, _, rfl, rfl, p, _, _, rfl, rfl, hl', ?_, ?_⟩
          · rw [List.length_map, sizeLine_eq]
            have : acc.length ≤ (numOct n b m).length := by rw [← ha]; simp
            omega
          · refine ⟨_, rfl, _, _, rfl, rfl, (by show (0 : Int) ≤ 7; decide), ?_⟩
            refine ⟨acc ++ [128 + (k : Int) % 128], ?_, s1.put hp', ?_, ?_⟩
            · have e : ((k : Int) / 2 ^ (7 : Int).toNat) = ((k / 128 : Nat) : Int) := by
                show (k : Int) / 128 = _
                omega
              rw [← e]
              rfl
            · rw [upd_same, and127 (by omega), List.map_append]
              rfl
            · rw [← ha, restOct_ge ck, List.append_assoc]
              rfl

theorem ok_string_octets (T : Txt K mg) : FnOk P w K mg base CX0 4 T.f_string_octets T.d_string_octets ["text", "prefix", "mark"] sp_string_octets := by
  refine T.F_string_octets.ok sc_string_octets (fun vs H Q E h => ?_) (fun cdv A outer s H vs Q E hr h => ?_)
  · obtain ⟨x, b, m, rfl, _⟩ := h
    rfl
  · obtain ⟨x, b, m, rfl, ht, M, q⟩ := h
    refine ⟨_, (pss_cons (ps_if (pt_not (pt_val (pe_call (ok_is_value T) (hr.mono (by decide)) rfl T.g_is_value T.F_is_value.kp T.b_is_value .nil pass0 (pa_cons (pv 0) pa_nil)))) (pss_one ps_never) pss_nil)
      (pss_one (ps_ret (pe_op op_cat (pe_call (ok_number_octets T) (hr.mono (by decide)) rfl T.g_number_octets T.F_number_octets.kp T.b_number_octets .nil pass0 (pa_cons (pe_callB call_len rfl T.z_len boot_len (pa_cons (pv 0) pa_nil)) (pa_cons (pv 1) (pa_cons (pv 2) pa_nil)))) (pe_lc (own := [("character", 3)]) (g := (gName 3)) (tt := tYes)  rfl sc_string_octets.nd (pi_str (pv 0)) (blkOk_by (own := [("character", 3)]) (N := ["text", "prefix", "mark", "character"]) (sc := defScope s_string_octets) (by decide +kernel)) (fun _ _ _ _ _ => (pg_name (i := 3) sc_string_octets.nd rfl (Or.inl rfl))) (fun _ _ _ _ _ => pts_nil) (fun _ _ _ _ _ => (pe_callB call_ord rfl T.z_ord boot_ord (pa_cons (pv 3) pa_nil)))))))), ?_⟩
    have hl := txt_len ht
    refine ⟨_, rfl, .str x, "str", rfl, .str _, fun y e => ?_, fun H1 s1 => ?_⟩
    · cases e; omega
    refine ⟨_, rfl, ?_⟩
    refine ifF (by rw [ht]; rfl) ?_
    refine ⟨_, rfl, _, _, rfl, ⟨len100 (by omega), rfl⟩, ?_⟩
    refine ⟨_, rfl, _, rfl, x.length, b, m, rfl, by omega, M, fun p H2 hp s2 hp2 => ?_⟩
    have hz := numOct_len x.length b m
    refine ⟨_, rfl, _, rfl, fun D hD => ?_⟩
    refine lc_map walk_str (fun i => V.int ((x.cps.toList.getD i 0 : Nat) : Int)) (by show x.length ≤ 1000000; omega) hD (fun _ _ => True.intro) ?_ ?_
    · rintro i y H' H'' Q' Z hi s3 ⟨rfl, c, hc, rfl⟩ q'
      refine ⟨rfl, yesI ?_⟩
      refine ⟨_, rfl, _, rfl, rfl, ?_⟩
      have e4 : x.cps.toList.getD i 0 = c := getD_of 0 (cps_at hc)
      have := q' H'' (Same.refl _)
      rw [e4] at this
      exact this
    · intro H' s3 hD'
      have e5 : (List.range x.cps.size).map (fun i => V.int ((x.cps.toList.getD i 0 : Nat) : Int)) = (x.cps.toList.map fun (c : Nat) => (c : Int)).map V.int := by
        rw [List.map_map]
        exact range_map x.cps.toList (fun (c : Nat) => V.int (c : Int)) 0
      rw [e5] at hD'
      refine ⟨_, _, _, _, rfl, rfl, s3 _ _ hp2, hD', ?_, fun r hr' => ?_⟩
      · rw [List.length_map, List.length_map, List.length_map, ← str_len, sizeLine_eq]
        omega
      · refine q r _ ((s1.trans s2).trans s3 |>.free hr') ((s1.trans s2).trans s3 |>.put ((s1.trans s2).trans s3 |>.free hr')) ?_
        rw [upd_same, List.map_append]
/-- one row of _law_code's table walked -/
def t_code_in (K : PySem.W.Frag) : TS := tFor (iEnumS (tCons (tVar 2) tNil)) (gTup K 2 (gCons (gName 3) (gCons (gName 4) gNil))) (tIfS (tTest (tOp rEq (tVar 4) (tVar 0))) (tRet (tOp (rI0 fun i j => .int (i + j)) (tVar 1) (tVar 3))) tNext)
theorem code_in {c : Nat} {first : Nat} {row : Str} {k one : Option V} {D : Ends} {H : Hp} (hrow : ∀ i r, row.cps[i]? = some r → r = first + i)
    (hyes : ∀ H', Same H H' → c ∈ row.cps.toList → D.rt (.int (c : Nat)) H') (hno : ∀ k one H', Same H H' → c ∉ row.cps.toList → D.nx [some (.str ⟨#[c]⟩), some (.int (first : Nat)), some (.str row), k, one] H') :
    t_code_in K D [some (.str ⟨#[c]⟩), some (.int (first : Nat)), some (.str row), k, one] H := by
  refine ⟨_, rfl, row, rfl, ?_⟩
  refine for_it walk_enumS (fun i σ H' => ∃ k one : Option V, σ = [some (.str ⟨#[c]⟩), some (.int (first : Nat)), some (.str row), k, one] ∧ Same H H' ∧ c ∉ row.cps.toList.take i) ⟨k, one, rfl, Same.refl _, by simp⟩ (fun _ _ _ _ _ => True.intro) ?_ ?_
  · rintro i x σ H' H'' hi ⟨k', one', rfl, s1, hc⟩ ⟨tt, r, rfl, htt, rfl, hr⟩
    refine ⟨tt, _, rfl, SqT.of upd_same, rfl, _, _, rfl, _, _, rfl, rfl, ?_⟩
    refine ⟨_, rfl, _, rfl, rfl, _, rfl, ?_⟩
    have s2 := s1.put (o := .tup [.int (i : Nat), .str ⟨#[r]⟩]) (s1.free htt)
    have hr' : row.cps.toList[i]? = some r := cps_at hr
    by_cases e : r = c
    · subst e
      refine ifT (decide_eq_true rfl) ?_
      refine ⟨_, rfl, _, rfl, _, _, rfl, rfl, ?_⟩
      have e1 : ((first : Nat) : Int) + (i : Nat) = ((r : Nat) : Int) := by
        have := hrow i r hr
        omega
      show D.rt (.int (((first : Nat) : Int) + (i : Nat))) _
      rw [e1]
      exact hyes _ s2 (List.mem_of_getElem? hr')
    · refine ifF (decide_eq_false fun q => e ?_) ⟨_, _, rfl, s2, ?_⟩
      · have : (⟨#[r]⟩ : Str) = ⟨#[c]⟩ := by injection q
        have h2 : #[r] = #[c] := congrArg Str.cps this
        simpa using h2
      · have e2 : row.cps.toList.take (i + 1) = row.cps.toList.take i ++ [r] := by
          rw [List.take_add_one, hr']; rfl
        rw [e2]
        intro hm
        rcases List.mem_append.mp hm with h | h
        · exact hc h
        · exact e (List.mem_singleton.mp h).symm
  · rintro σ H' ⟨k', one', rfl, s1, hc⟩
    refine hno _ _ _ s1 ?_
    rwa [List.take_of_length_le (by simp)] at hc
theorem ok_law_open (T : Txt K mg) : FnOk P w K mg base CX0 1 T.f_law_open T.d_law_open ["script"] (sp_law_open K) := by
  refine T.F_law_open.ok sc_law_open (fun vs H Q E h => ?_) (fun cdv A outer s H vs Q E hr h => ?_)
  · obtain ⟨a, ns, rfl, _⟩ := h
    rfl
  · obtain ⟨a, ns, rfl, hS, hl, q⟩ := h
    refine ⟨_, (pss_cons (ps_set (i := 1) sc_law_open.nd rfl (Or.inl rfl) (pe_callTy call_list_of rfl T.z_list boot_list (pa_cons (pe_slice sl_list (pv 0) po_none (po_some pe_int)) pa_nil)))
      (pss_cons (ps_for PassesOwn.never rfl (pi_enum rfl T.z_enumerate (pa_cons (pe_slice sl_list (pv 0) (po_some pe_int) (po_some pe_int)) pa_nil)) (pg_tup rfl (pgs_cons (pg_name (i := 2) sc_law_open.nd rfl (Or.inl rfl)) (pgs_cons (pg_name (i := 3) sc_law_open.nd rfl (Or.inl rfl)) pgs_nil)))
        (pss_one (ps_asg (pe_op op_add (pe_ix ix_list (pv 1) (pe_op op_mod (pv 2) pe_int) (fun _ _ => rfl)) (pv 3)) (pg_sub (pv 1) (pe_op op_mod (pv 2) pe_int) set_list))))
      (pss_one (ps_ret (pe_lst (pa_cons (pv 1) (pa_cons pe_int (pa_cons pe_int pa_nil)))))))), ?_⟩
    refine ⟨_, rfl, _, rfl, a, _, rfl, hS, fun p1 hp1 => ?_⟩
    refine ⟨p1, _, rfl, .inl (SqL.of upd_same), fun c hc => ?_⟩
    have s1 : Same H (upd (upd H p1 (.lst (cutV (ns.map V.int) none (some 12)))) c (.lst (cutV (ns.map V.int) none (some 12)))) := (Same.new hp1).trans (Same.new hc)
    have hcc : H c = none := (Same.new hp1).free hc
    refine ⟨_, rfl, _, rfl, _, rfl, a, _, rfl, s1.seq hS, fun p2 hp2 => ?_⟩
    have npc : c ≠ p2 := ne_of_none upd_same hp2
    have s2 := s1.trans (Same.new (o := .lst (cutV (ns.map V.int) (some 12) (some 63))) hp2)
    refine ⟨p2, _, rfl, SqL.of upd_same, ?_⟩
    generalize hH2 : upd (upd (upd H p1 (.lst (cutV (ns.map V.int) none (some 12)))) c (.lst (cutV (ns.map V.int) none (some 12)))) p2 (.lst (cutV (ns.map V.int) (some 12) (some 63))) = H2 at s2 ⊢
    have gc : H2 c = some (.lst ((ns.take 12).map V.int)) := by
      rw [← hH2, upd_ne npc, upd_same]
      have := cut_to (ns.map V.int) 12
      rw [List.map_take]
      exact congrArg (fun l => some (HO.lst l)) this
    have g2 : H2 p2 = some (.lst (cutV (ns.map V.int) (some 12) (some 63))) := by rw [← hH2, upd_same]
    have el : (cutV (ns.map V.int) (some 12) (some 63)) = ((ns.drop 12).take 51).map V.int := by
      have := cut_mid (ns.map V.int) 12 63
      rw [List.map_take, List.map_drop]
      exact this
    rw [el] at g2
    clear hH2 el
    refine for_it (walk_enum (K := K) (a := p2) (xs := ((ns.drop 12).take 51).map V.int)) (fun i σ H' => ∃ (cs : List Int) (x y : Option V), σ = [some (.ref a), some (.ref c), x, y] ∧ But c H2 H' ∧ H' c = some (.lst (cs.map V.int)) ∧ cs.length = (ns.take 12).length)
      ⟨ns.take 12, none, none, rfl, But.refl _ _, gc, rfl⟩ (fun i σ H' _ ⟨_, _, _, _, b, _⟩ => b.seq (Ne.symm npc) (SqL.of g2)) ?_ ?_
    · rintro i x σ H' H'' hi ⟨cs, v1, v2, rfl, b, hcs, hlen⟩ ⟨t, z1, z2, rfl, ht, rfl, e1, e2⟩
      cases e1
      have e3 : ∃ z : Int, z2 = .int z := by
        replace e2 : (((ns.drop 12).take 51).map V.int)[i]? = some z2 := e2
        rw [List.getElem?_map] at e2
        cases e4 : ((ns.drop 12).take 51)[i]? with
        | none => rw [e4] at e2; cases e2
        | some z => rw [e4] at e2; exact ⟨z, (Option.some.inj e2).symm⟩
      obtain ⟨z, rfl⟩ := e3
      have h12 : cs.length = 12 := by
        rw [hlen]
        rw [List.length_map, List.length_take, List.length_drop] at hi
        rw [List.length_take]
        omega
      have hm : i % 12 < cs.length := by omega
      have nct : c ≠ t := ne_of_none hcs ht
      have hcs' : upd H' t (.tup [.int (i : Nat), .int z]) c = some (.lst (cs.map V.int)) := by rw [upd_ne nct]; exact hcs
      refine ⟨t, _, rfl, SqT.of upd_same, rfl, _, _, rfl, _, _, rfl, rfl, ?_⟩
      have em : ((i : Nat) : Int) % 12 = ((i % 12 : Nat) : Int) := by omega
      have ea : atI (cs.map V.int) (((i : Nat) : Int) % 12) = some (.int cs[i % 12]) := by
        rw [em]
        exact atI_nat (by rw [List.getElem?_map, List.getElem?_eq_getElem hm]; rfl)
      refine ⟨_, rfl, _, rfl, _, _, rfl, rfl, (by show (0 : Int) < 12; decide), c, _, _, _, rfl, rfl, SqL.of hcs', ea, _, rfl, _, _, rfl, rfl, ?_⟩
      refine ⟨_, rfl, _, rfl, _, _, rfl, rfl, (by show (0 : Int) < 12; decide), c, _, _, i % 12, rfl, rfl, hcs', ?_, ?_⟩
      · show ixN (cs.map V.int).length (((i : Nat) : Int) % 12) = _
        rw [em]
        exact Evl.ixN_nat (by rw [List.length_map]; exact hm)
      · refine ⟨cs.set (i % 12) (cs[i % 12] + z), _, _, rfl, (b.trans (But.new ht)).trans But.set, ?_, by rw [List.length_set]; exact hlen⟩
        rw [upd_same, ← List.map_set]
    · rintro σ H' ⟨cs, v1, v2, rfl, b, hcs, hlen⟩
      refine ⟨_, rfl, (by show 3 ≤ sizeLine; decide), fun p hp => ?_⟩
      have s3 : Same H H' := fun u o e => b u o (ne_of_none e hcc) (s2 u o e)
      refine q p c _ (s3.free hp) (s3.put (s3.free hp)) ⟨0, 0, cs, upd_same, ?_, ne_of_none hcs hp, ?_, Nat.le_refl _⟩
      · rw [upd_ne (ne_of_none hcs hp)]; exact hcs
      · rw [hlen, List.length_take]; omega
theorem ok_law_spread (T : Txt K mg) : FnOk P w K mg base CX0 1 T.f_law_spread T.d_law_spread ["cell", "at"] sp_law_spread := by
  refine T.F_law_spread.ok sc_law_spread (fun vs H Q E h => ?_) (fun cdv A outer s H vs Q E hr h => ?_)
  · obtain ⟨c, a, rfl, _⟩ := h
    rfl
  · obtain ⟨c, a, rfl, ha, q⟩ := h
    refine ⟨_, (pss_cons (ps_if (pt_cmpR op_ge (pv 0) (pe_op op_pow pe_int pe_int) (nomark _)) (pss_one (ps_ret (pv 0))) pss_nil)
      (pss_cons (ps_set (i := 2) sc_law_spread.nd rfl (Or.inl rfl) (pe_lst (pa_cons pe_int (pa_cons pe_int (pa_cons pe_int (pa_cons pe_int (pa_cons pe_int (pa_cons pe_int (pa_cons pe_int (pa_cons pe_int pa_nil))))))))))
      (pss_cons (ps_set (i := 2) sc_law_spread.nd rfl (Or.inl rfl) (pe_op op_cat (pv 2) (pe_lst (pa_cons pe_int (pa_cons pe_int (pa_cons pe_int (pa_cons pe_int (pa_cons pe_int pa_nil))))))))
      (Evl.pss_cut (ps_set (i := 3) sc_law_spread.nd rfl (Or.inl rfl) (pe_op op_mod (pe_op op_pow (pe_op op_add (pe_op op_add (pe_op op_mul (pe_op op_mod (pv 0) pe_int) (pe_op op_add (pe_op op_mul pe_int (pv 1)) pe_int)) (pe_op op_mul (pv 1) pe_int)) pe_int) pe_int) (pe_ix ix_list (pv 2) (pe_op op_mod (pv 1) pe_int) (fun _ _ => rfl))))
      (Evl.pss_cut (ps_set (i := 4) sc_law_spread.nd rfl (Or.inl rfl) (pe_op op_mod (pe_op op_pow (pe_op op_add (pe_op op_add (pe_op op_mul (pv 3) (pe_op op_add (pv 1) pe_int)) (pe_op op_mod (pv 0) pe_int)) pe_int) pe_int) (pe_ix ix_list (pv 2) (pe_op op_mod (pe_op op_add (pv 1) pe_int) pe_int) (fun _ _ => rfl))))
      (Evl.pss_cut (ps_set (i := 5) sc_law_spread.nd rfl (Or.inl rfl) (pe_op op_mod (pe_op op_pow (pe_op op_add (pe_op op_add (pv 4) (pe_op op_mod (pv 3) pe_int)) (pv 1)) pe_int) (pe_ix ix_list (pv 2) (pe_op op_mod (pe_op op_add (pv 1) pe_int) pe_int) (fun _ _ => rfl))))
      (pss_one (ps_ret (pe_op op_add (pe_op op_mul (pe_op op_add (pe_op op_mul (pv 3) pe_int) (pv 4)) pe_int) (pv 5)))))))))), ?_⟩
    refine ⟨_, rfl, _, _, rfl, rfl, ⟨by decide, by decide, by decide⟩, _, _, rfl, rfl, _, rfl, ?_⟩
    refine ifb (fun _ => ?_) (fun _ => ?_)
    · exact ⟨_, rfl, q c H (Same.refl _)⟩
    refine ⟨by show 8 ≤ sizeLine; decide, fun p1 hp1 => ?_⟩
    refine ⟨_, rfl, by show 5 ≤ sizeLine; decide, fun p2 hp2 => ?_⟩
    have n12 : p1 ≠ p2 := ne_of_none upd_same hp2
    refine ⟨p1, p2, _, _, rfl, rfl, by rw [upd_ne n12]; exact upd_same, upd_same, by show 13 ≤ sizeLine; decide, fun p3 hp3 => ?_⟩
    have s3 : Same H _ := ((Same.new hp1).trans (Same.new hp2)).trans (Same.new (o := .lst (primes.map V.int)) hp3)
    have g3 : upd (upd (upd H p1 (.lst [.int 2147483629, .int 2147483587, .int 2147483579, .int 2147483563, .int 2147483549, .int 2147483543, .int 2147483497, .int 2147483489])) p2 (.lst [.int 2147483477, .int 2147483423, .int 2147483399, .int 2147483353, .int 2147483323])) p3 (.lst (primes.map V.int)) p3 = some (.lst (primes.map V.int)) := upd_same
    have hm1 : 0 ≤ c % 1000000007 ∧ c % 1000000007 < 1000000007 := ⟨Int.emod_nonneg _ (by decide), Int.emod_lt_of_pos _ (by decide)⟩
    have hm2 : 0 ≤ c % 65537 ∧ c % 65537 < 65537 := ⟨Int.emod_nonneg _ (by decide), Int.emod_lt_of_pos _ (by decide)⟩
    have ix : ∀ k : Nat, ∃ r : Int, atI (primes.map V.int) (((k : Nat) : Int) % 13) = some (.int r) ∧ 0 < r ∧ r < 2147483648 := fun k => primes_at (Int.emod_nonneg _ (by decide)) (Int.emod_lt_of_pos _ (by decide))
    obtain ⟨r1, i1, r1p, r1b⟩ := ix a
    obtain ⟨r2, i2, r2p, r2b⟩ := ix (a + 5)
    obtain ⟨r3, i3, r3p, r3b⟩ := ix (a + 7)
    rw [Int.natCast_add] at i2 i3
    have e18 : (10 : Int) ^ 18 = 1000000000000000000 := by decide
    have b1 := mul_bd (A := 1000000007) (B := 2069069) hm1.1 (Int.le_of_lt hm1.2) (b := 2 * (a : Int) + 69069) (by omega) (by omega)
    refine ⟨fun σ' H' => ∃ one : Int, σ' = [some (.int c), some (.int (a : Nat)), some (.ref p3), some (.int one), none, none] ∧ (0 ≤ one ∧ one < 2147483648) ∧ H' p3 = some (.lst (primes.map V.int)) ∧ Same H H', ?_, ?_⟩
    · refine ⟨_, rfl, _, _, rfl, rfl, (by show (0 : Int) < 1000000007; decide), _, rfl, _, _, rfl, rfl, .inl ⟨by decide, by decide⟩, _, _, rfl, rfl, _, _, rfl, rfl, mul64 hm1.1 (by omega),
        _, rfl, _, _, rfl, rfl, .inr ⟨by decide, by decide⟩, _, _, rfl, rfl, _, _, rfl, rfl, _, _, rfl, rfl, ⟨by decide, by decide, pow_small (by omega) (by omega)⟩,
        _, rfl, _, rfl, _, _, rfl, rfl, (by show (0 : Int) < 13; decide), p3, _, _, _, rfl, rfl, SqL.of g3, i1, _, _, rfl, rfl, r1p, ?_⟩
      exact ⟨_, rfl, ⟨Int.emod_nonneg _ (by omega), Int.lt_trans (Int.emod_lt_of_pos _ r1p) r1b⟩, g3, s3⟩
    · rintro σ' H' ⟨one, rfl, hone, g3, s3⟩
      have b2 := mul_bd (A := 2147483648) (B := 1000003) hone.1 (Int.le_of_lt hone.2) (b := (a : Int) + 3) (by omega) (by omega)
      refine ⟨fun σ' H' => ∃ two : Int, σ' = [some (.int c), some (.int (a : Nat)), some (.ref p3), some (.int one), some (.int two), none] ∧ (0 ≤ two ∧ two < 2147483648) ∧ H' p3 = some (.lst (primes.map V.int)) ∧ Same H H', ?_, ?_⟩
      · refine ⟨_, rfl, _, rfl, _, _, rfl, rfl, _, _, rfl, rfl, mul64 hone.1 (by omega), _, rfl, _, _, rfl, rfl, (by show (0 : Int) < 65537; decide), _, _, rfl, rfl, _, _, rfl, rfl, _, _, rfl, rfl, ⟨by decide, by decide, pow_small (by omega) (by omega)⟩,
          _, rfl, _, rfl, _, _, rfl, rfl, _, _, rfl, rfl, (by show (0 : Int) < 13; decide), p3, _, _, _, rfl, rfl, SqL.of g3, i2, _, _, rfl, rfl, r2p, ?_⟩
        exact ⟨_, rfl, ⟨Int.emod_nonneg _ (by omega), Int.lt_trans (Int.emod_lt_of_pos _ r2p) r2b⟩, g3, s3⟩
      · rintro σ' H' ⟨two, rfl, htwo, g3, s3⟩
        have hm3 : 0 ≤ one % 1009 ∧ one % 1009 < 1009 := ⟨Int.emod_nonneg _ (by decide), Int.emod_lt_of_pos _ (by decide)⟩
        refine ⟨fun σ' H' => ∃ three : Int, σ' = [some (.int c), some (.int (a : Nat)), some (.ref p3), some (.int one), some (.int two), some (.int three)] ∧ Same H H', ?_, ?_⟩
        · refine ⟨_, rfl, _, rfl, _, _, rfl, rfl, (by show (0 : Int) < 1009; decide), _, _, rfl, rfl, _, rfl, _, _, rfl, rfl, _, _, rfl, rfl, ⟨by decide, by decide, pow_small (by omega) (by omega)⟩,
            _, rfl, _, rfl, _, _, rfl, rfl, _, _, rfl, rfl, (by show (0 : Int) < 13; decide), p3, _, _, _, rfl, rfl, SqL.of g3, i3, _, _, rfl, rfl, r3p, ?_⟩
          exact ⟨_, rfl, s3⟩
        · rintro σ' H' ⟨three, rfl, s3⟩
          refine ⟨_, rfl, _, _, rfl, rfl, .inr ⟨by decide, by decide⟩, _, rfl, _, _, rfl, rfl, _, _, rfl, rfl, .inr ⟨by decide, by decide⟩, _, rfl, _, _, rfl, rfl, ?_⟩
          exact q _ H' s3

theorem ok_law_take (T : Txt K mg) : FnOk P w K mg base CX0 2 T.f_law_take T.d_law_take ["pen", "amount"] sp_law_take := by
  refine T.F_law_take.ok sc_law_take (fun vs H Q E h => ?_) (fun cdv A outer s H vs Q E hr h => ?_)
  · obtain ⟨p, c, n, k, rfl, _⟩ := h
    rfl
  · obtain ⟨p, c, n, k, rfl, ⟨a, acc, ns, gp, gc, ncp, hns, han⟩, hk0, hk, hn, q⟩ := h
    refine ⟨_, (Evl.pss_cut (ps_if (pt_cmpR op_lt (pe_ix ix_list (pv 0) pe_int (fun _ _ => rfl)) (pv 1) (nomark _)) (pss_cons (ps_set (i := 2) sc_law_take.nd rfl (Or.inl rfl) (pe_ix ix_list (pv 0) pe_int (fun _ _ => rfl)))
      (pss_cons (ps_set (i := 3) sc_law_take.nd rfl (Or.inl rfl) pe_int)
      (Evl.pss_cut (ps_if (pt_cmpR op_lt (pv 2) (pe_callB call_len rfl T.z_len boot_len (pa_cons (pe_ix ix_list (pv 0) pe_int (fun _ _ => rfl)) pa_nil)) (nomark _)) (pss_one (ps_set (i := 3) sc_law_take.nd rfl (Or.inl rfl) (pe_ix ix_list (pe_ix ix_list (pv 0) pe_int (fun _ _ => rfl)) (pv 2) (fun _ _ => rfl)))) (pss_one (ps_if (pt_cmpR op_gt (pe_callB call_len rfl T.z_len boot_len (pa_cons (pe_ix ix_list (pv 0) pe_int (fun _ _ => rfl)) pa_nil)) pe_int (nomark _)) (pss_one (ps_set (i := 3) sc_law_take.nd rfl (Or.inl rfl) (pe_op op_mod (pe_ix ix_list (pe_ix ix_list (pv 0) pe_int (fun _ _ => rfl)) (pe_op op_mod (pe_op op_add (pe_op op_mul (pv 2) pe_int) pe_int) (pe_callB call_len rfl T.z_len boot_len (pa_cons (pe_ix ix_list (pv 0) pe_int (fun _ _ => rfl)) pa_nil))) (fun _ _ => rfl)) (pe_op op_add (pe_op op_pow pe_int pe_int) (pv 2))))) pss_nil)))
      (pss_cons (ps_asg (pe_op op_add (pv 2) pe_int) (pg_sub (pv 0) pe_int set_list))
      (pss_one (ps_asg (pe_call (ok_law_spread T) (hr.mono (by decide)) rfl T.g_law_spread T.F_law_spread.kp T.b_law_spread .nil pass0 (pa_cons (pv 3) (pa_cons (pv 2) pa_nil))) (pg_sub (pv 0) pe_int set_list))))))) pss_nil)
      (pss_cons (ps_set (i := 4) sc_law_take.nd rfl (Or.inl rfl) (pe_op op_mod (pe_ix ix_list (pv 0) pe_int (fun _ _ => rfl)) (pv 1)))
      (pss_cons (ps_asg (pe_op op_fdiv (pe_ix ix_list (pv 0) pe_int (fun _ _ => rfl)) (pv 1)) (pg_sub (pv 0) pe_int set_list))
      (pss_one (ps_ret (pv 4)))))), ?_⟩
    refine ⟨fun σ' H' => ∃ (a' : Nat) (acc' : Int) (x y : Option V), σ' = [some (.ref p), some (.int k), x, y, none] ∧ But p H H' ∧ H' p = some (.lst [.ref c, .int (a' : Nat), .int acc']) ∧ H' c = some (.lst (ns.map V.int)) ∧ a' ≤ n + 1, ?_, ?_⟩
    · refine ⟨_, rfl, p, _, _, _, rfl, rfl, SqL.of gp, rfl, _, rfl, _, _, rfl, rfl, _, rfl, ?_⟩
      refine ifb (fun _ => ?_) (fun _ => ?_)
      · refine ⟨_, rfl, p, _, _, _, rfl, rfl, SqL.of gp, rfl, ?_⟩
        refine ⟨fun σ' H' => ∃ z : Int, σ' = [some (.ref p), some (.int k), some (.int (a : Nat)), some (.int z), none] ∧ H = H', ?_, ?_⟩
        · refine ⟨_, rfl, _, rfl, p, _, _, _, rfl, rfl, SqL.of gp, rfl, _, _, rfl, .inl ⟨_, SqL.of gc, rfl⟩, _, _, rfl, rfl, _, rfl, ?_⟩
          rw [List.length_map]
          by_cases c1 : a < ns.length
          · refine ifT (decide_eq_true (by omega)) ?_
            refine ⟨_, rfl, p, _, _, _, rfl, rfl, SqL.of gp, rfl, _, rfl, c, _, _, _, rfl, rfl, SqL.of gc, atI_nat (j := a) (v := .int ns[a]) (by rw [List.getElem?_map, List.getElem?_eq_getElem c1]; rfl), ?_⟩
            exact ⟨_, rfl, rfl⟩
          · refine ifF (decide_eq_false (by omega)) ?_
            refine ⟨_, rfl, p, _, _, _, rfl, rfl, SqL.of gp, rfl, _, _, rfl, .inl ⟨_, SqL.of gc, rfl⟩, _, _, rfl, rfl, _, rfl, ?_⟩
            rw [List.length_map]
            by_cases c2 : 0 < ns.length
            · refine ifT (decide_eq_true (by omega)) ?_
              have hm : (((a : Nat) : Int) * 5 + 3) % ((ns.length : Nat) : Int) = (((a * 5 + 3) % ns.length : Nat) : Int) := by
                rw [Int.natCast_emod]; rfl
              have hlt : (a * 5 + 3) % ns.length < ns.length := Nat.mod_lt _ c2
              obtain ⟨w0, ea⟩ : ∃ w0 : Int, atI (ns.map V.int) ((((a : Nat) : Int) * 5 + 3) % (((ns.map V.int).length : Nat) : Int)) = some (.int w0) := by
                rw [List.length_map, hm]
                exact ⟨ns[(a * 5 + 3) % ns.length], atI_nat (by rw [List.getElem?_map, List.getElem?_eq_getElem hlt]; rfl)⟩
              have pos : (0 : Int) < (((ns.map V.int).length : Nat) : Int) := by rw [List.length_map]; omega
              have e17 : (10 : Int) ^ (17 : Int).toNat = 100000000000000000 := by decide
              refine ⟨_, rfl, p, _, _, _, rfl, rfl, SqL.of gp, rfl, _, rfl, _, _, rfl, rfl, .inr ⟨by decide, by decide⟩, _, _, rfl, rfl, _, rfl, p, _, _, _, rfl, rfl, SqL.of gp, rfl, _, _, rfl, .inl ⟨_, SqL.of gc, rfl⟩, _, _, rfl, rfl, pos,
                c, _, _, _, rfl, rfl, SqL.of gc, ea, _, _, rfl, rfl, ⟨by decide, by decide, by decide⟩, _, rfl, _, _, rfl, rfl, _, _, rfl, rfl, ?_, ?_⟩
              · show (0 : Int) < (10 : Int) ^ (17 : Int).toNat + (a : Int)
                rw [e17]
                omega
              · exact ⟨_, rfl, rfl⟩
            · refine ifF (decide_eq_false (by omega)) ?_
              exact ⟨_, rfl, rfl⟩
        · rintro σ' H' ⟨z, rfl, rfl⟩
          refine ⟨_, rfl, _, _, rfl, rfl, _, rfl, p, _, _, 1, rfl, rfl, gp, rfl, ?_⟩
          refine ⟨_, rfl, _, rfl, z, a, rfl, by omega, fun r H' s1 => ?_⟩
          have g1 : H' p = some (.lst [.ref c, .int ((a + 1 : Nat) : Int), .int acc]) := s1 _ _ upd_same
          have gc1 : H' c = some (.lst (ns.map V.int)) := s1 _ _ (by rw [upd_ne ncp]; exact gc)
          refine ⟨_, rfl, p, _, _, 2, rfl, rfl, g1, rfl, ?_⟩
          exact ⟨a + 1, r, _, _, rfl, (But.set.trans (But.of s1)).trans But.set, upd_same, by rw [upd_ne ncp]; exact gc1, by omega⟩
      · exact ⟨a, acc, none, none, rfl, But.refl _ _, gp, gc, by omega⟩
    · rintro σ' H' ⟨a', acc', x, y, rfl, b, gp', gc', ha'⟩
      refine ⟨_, rfl, p, _, _, _, rfl, rfl, SqL.of gp', rfl, _, rfl, _, _, rfl, rfl, hk0, ?_⟩
      refine ⟨_, rfl, p, _, _, _, rfl, rfl, SqL.of gp', rfl, _, rfl, _, _, rfl, rfl, ⟨hk0, hk⟩, _, rfl, p, _, _, 2, rfl, rfl, gp', rfl, ?_⟩
      refine ⟨_, rfl, ?_⟩
      exact q _ _ (Int.emod_nonneg _ (by omega)) (Int.emod_lt_of_pos _ hk0) ⟨⟨a', _, ns, upd_same, by rw [upd_ne ncp]; exact gc', ncp, hns, ha'⟩, b.trans But.set⟩
theorem ok_law_one_of (T : Txt K mg) : FnOk P w K mg base CX0 3 T.f_law_one_of T.d_law_one_of ["pen", "some"] (sp_law_one_of K) := by
  refine T.F_law_one_of.ok sc_law_one_of (fun vs H Q E h => ?_) (fun cdv A outer s H vs Q E hr h => ?_)
  · obtain ⟨p, c, a, n, xs, rfl, _⟩ := h
    rfl
  · obtain ⟨p, c, a, n, xs, rfl, hp, hS, nap, hne, hz, hn, q⟩ := h
    refine ⟨_, (pss_one (ps_ret (pe_ix ix_list (pv 1) (pe_call (ok_law_take T) (hr.mono (by decide)) rfl T.g_law_take T.F_law_take.kp T.b_law_take .nil pass0 (pa_cons (pv 0) (pa_cons (pe_callB call_len rfl T.z_len boot_len (pa_cons (pv 1) pa_nil)) pa_nil))) (fun _ _ => rfl)))), ?_⟩
    have hpos : 0 < xs.length := List.length_pos_iff.mpr hne
    refine ⟨_, rfl, _, rfl, _, rfl, _, _, rfl, .inl ⟨_, hS, rfl⟩, ?_⟩
    refine ⟨p, c, n, xs.length, rfl, hp, by omega, by omega, hn, fun r H' h0 h1 d => ?_⟩
    have hr' : r.toNat < xs.length := by omega
    have er : r = ((r.toNat : Nat) : Int) := by omega
    refine ⟨a, xs, r, xs[r.toNat], rfl, rfl, d.but.seq nap hS, ?_, ?_⟩
    · exact at_of er (List.getElem?_eq_getElem hr')
    · exact q _ H' (List.getElem_mem hr') d
theorem ok_law_signs (T : Txt K mg) : FnOk P w K mg base CX0 1 T.f_law_signs T.d_law_signs [] sp_law_signs := by
  refine T.F_law_signs.ok sc_law_signs (fun vs H Q E h => ?_) (fun cdv A outer s H vs Q E hr h => ?_)
  · obtain ⟨rfl, _⟩ := h
    rfl
  · obtain ⟨rfl, q⟩ := h
    refine ⟨_, (pss_one (ps_ret pe_str)), ?_⟩
    exact q

theorem ok_law_draw_number (T : Txt K mg) : FnOk P w K mg base CX0 4 T.f_law_draw_number T.d_law_draw_number ["pen"] sp_law_draw_number := by
  refine T.F_law_draw_number.ok sc_law_draw_number (fun vs H Q E h => ?_) (fun cdv A outer s H vs Q E hr h => ?_)
  · obtain ⟨p, c, n, rfl, _⟩ := h
    rfl
  · obtain ⟨p, c, n, rfl, hp, hn, q⟩ := h
    refine ⟨_, (Evl.pss_cut (ps_set (i := 1) sc_law_draw_number.nd rfl (Or.inl rfl) (pe_call (ok_law_one_of T) (hr.mono (by decide)) rfl T.g_law_one_of T.F_law_one_of.kp T.b_law_one_of .nil pass0 (pa_cons (pv 0) (pa_cons (pe_lst (pa_cons pe_int (pa_cons pe_int (pa_cons pe_int (pa_cons pe_int (pa_cons pe_int (pa_cons pe_int (pa_cons pe_int (pa_cons pe_int (pa_cons pe_int (pa_cons pe_int (pa_cons pe_int (pa_cons pe_int (pa_cons pe_int (pa_cons pe_int (pa_cons pe_int pa_nil)))))))))))))))) pa_nil))))
      (Evl.pss_cut (ps_set (i := 2) sc_law_draw_number.nd rfl (Or.inl rfl) (pe_lst (pa_cons pe_int (pa_cons pe_int (pa_cons (pe_call (ok_law_take T) (hr.mono (by decide)) rfl T.g_law_take T.F_law_take.kp T.b_law_take .nil pass0 (pa_cons (pv 0) (pa_cons pe_int pa_nil))) (pa_cons (pe_call (ok_law_take T) (hr.mono (by decide)) rfl T.g_law_take T.F_law_take.kp T.b_law_take .nil pass0 (pa_cons (pv 0) (pa_cons pe_int pa_nil))) (pa_cons (pe_call (ok_law_take T) (hr.mono (by decide)) rfl T.g_law_take T.F_law_take.kp T.b_law_take .nil pass0 (pa_cons (pv 0) (pa_cons pe_int pa_nil))) (pa_cons (pe_op op_sub (pe_op op_add (pv 1) (pe_call (ok_law_take T) (hr.mono (by decide)) rfl T.g_law_take T.F_law_take.kp T.b_law_take .nil pass0 (pa_cons (pv 0) (pa_cons pe_int pa_nil)))) pe_int) pa_nil))))))))
      (pss_one (ps_ret (pe_callB (call_max2 rfl) rfl T.z_max boot_max (pa_cons pe_int (pa_cons (pe_callB (call_min2 rfl) rfl T.z_min boot_min (pa_cons pe_int (pa_cons (pe_call (ok_law_one_of T) (hr.mono (by decide)) rfl T.g_law_one_of T.F_law_one_of.kp T.b_law_one_of .nil pass0 (pa_cons (pv 0) (pa_cons (pv 2) pa_nil))) pa_nil))) pa_nil))))))), ?_⟩
    refine ⟨fun σ' H' => ∃ z : Int, σ' = [some (.ref p), some (.int z), none] ∧ Drew p c H H' (n + 1), ?_, ?_⟩
    · refine ⟨_, rfl, by show 15 ≤ sizeLine; decide, fun l hl => ?_⟩
      refine ⟨p, c, l, n, _, rfl, hp.keep (Same.new hl), SqL.of upd_same, Ne.symm (hp.ne hl), by simp, by simp, by omega, fun x H2 hx d => ?_⟩
      have hx' : ∃ z : Int, x = .int z := by
        simp only [List.mem_cons, List.not_mem_nil, or_false] at hx
        rcases hx with h | h | h | h | h | h | h | h | h | h | h | h | h | h | h <;> exact ⟨_, h⟩
      obtain ⟨z, rfl⟩ := hx'
      exact ⟨z, rfl, d.pen, (But.new hl).trans d.but⟩
    · rintro σ' H1 ⟨near, rfl, d1⟩
      refine ⟨fun σ' H' => ∃ (l : Addr) (xs : List V), σ' = [some (.ref p), some (.int near), some (.ref l)] ∧ Drew p c H H' (n + 5) ∧ H' l = some (.lst xs) ∧ l ≠ p ∧ xs.length = 6 ∧ ∀ x ∈ xs, ∃ z : Int, x = .int z, ?_, ?_⟩
      · refine ⟨_, rfl, p, c, n + 1, _, rfl, d1.pen, by omega, by omega, by omega, fun r1 H2 _ _ d2 => ?_⟩
        refine ⟨_, rfl, p, c, n + 2, _, rfl, d2.pen, by omega, by omega, by omega, fun r2 H3 _ _ d3 => ?_⟩
        refine ⟨_, rfl, p, c, n + 3, _, rfl, d3.pen, by omega, by omega, by omega, fun r3 H4 _ _ d4 => ?_⟩
        refine ⟨_, rfl, _, rfl, p, c, n + 4, _, rfl, d4.pen, by omega, by omega, by omega, fun r4 H5 _ _ d5 => ?_⟩
        refine ⟨_, _, rfl, rfl, _, _, rfl, rfl, by show 6 ≤ sizeLine; decide, fun l hl => ?_⟩
        have d := (((d1.trans d2).trans d3).trans d4).trans d5
        refine ⟨l, _, rfl, d.keep (Same.new hl), upd_same, Ne.symm (d.pen.ne hl), rfl, fun x hx => ?_⟩
        simp only [List.mem_cons, List.not_mem_nil, or_false] at hx
        rcases hx with h | h | h | h | h | h <;> exact ⟨_, h⟩
      · rintro σ' H2 ⟨l, xs, rfl, d2, hl, nlp, hlen, hints⟩
        refine ⟨_, rfl, _, rfl, p, c, l, n + 5, xs, rfl, d2.pen, SqL.of hl, nlp, (by intro e; rw [e] at hlen; cases hlen), by omega, by omega, fun x H3 hx d3 => ?_⟩
        obtain ⟨z, rfl⟩ := hints x hx
        refine ⟨_, _, rfl, _, _, rfl, ?_⟩
        have e : ∃ k : Nat, k ≤ 9999 ∧ (if (if z < 9999 then z else 9999) > 0 then (if z < 9999 then z else 9999) else 0) = ((k : Nat) : Int) := by
          refine ⟨(if (if z < 9999 then z else 9999) > 0 then (if z < 9999 then z else 9999) else 0).toNat, ?_, ?_⟩ <;> split <;> split <;> omega
        obtain ⟨k, hk, ek⟩ := e
        have := q k H3 hk (d2.trans ⟨d3.pen.mono (by omega), d3.but⟩)
        rw [← ek] at this
        exact this
theorem ok_law_draw_text (T : Txt K mg) : FnOk P w K mg base CX0 4 T.f_law_draw_text T.d_law_draw_text ["pen", "least", "most"] sp_law_draw_text := by
  refine T.F_law_draw_text.ok sc_law_draw_text (fun vs H Q E h => ?_) (fun cdv A outer s H vs Q E hr h => ?_)
  · obtain ⟨p, c, n, a, b, rfl, _⟩ := h
    rfl
  · obtain ⟨p, c, n, a, b, rfl, hp, hn, ha1, hab, hb, q⟩ := h
    refine ⟨_, (pss_cons (ps_set (i := 3) sc_law_draw_text.nd rfl (Or.inl rfl) (pe_call (ok_law_one_of T) (hr.mono (by decide)) rfl T.g_law_one_of T.F_law_one_of.kp T.b_law_one_of .nil pass0 (pa_cons (pv 0) (pa_cons (pe_lst (pa_cons (pv 1) (pa_cons (pv 2) (pa_cons (pe_op op_add (pv 1) (pe_call (ok_law_take T) (hr.mono (by decide)) rfl T.g_law_take T.F_law_take.kp T.b_law_take .nil pass0 (pa_cons (pv 0) (pa_cons (pe_op op_add (pe_op op_sub (pv 2) (pv 1)) pe_int) pa_nil)))) (pa_cons (pe_callB (call_min2 rfl) rfl T.z_min boot_min (pa_cons (pv 2) (pa_cons (pe_op op_add (pv 1) pe_int) pa_nil))) (pa_cons (pe_callB (call_min2 rfl) rfl T.z_min boot_min (pa_cons (pv 2) (pa_cons pe_int pa_nil))) pa_nil)))))) pa_nil))))
      (Evl.pss_cut (ps_set (i := 3) sc_law_draw_text.nd rfl (Or.inl rfl) (pe_callB (call_max2 rfl) rfl T.z_max boot_max (pa_cons (pv 1) (pa_cons (pv 3) pa_nil))))
      (pss_cons (ps_if (pt_cmpR op_eq (pe_call (ok_law_take T) (hr.mono (by decide)) rfl T.g_law_take T.F_law_take.kp T.b_law_take .nil pass0 (pa_cons (pv 0) (pa_cons pe_int pa_nil))) pe_int (nomark _)) (pss_one (ps_ret (pe_slice sl_str (pe_op op_mul_str (pe_call (ok_law_one_of T) (hr.mono (by decide)) rfl T.g_law_one_of T.F_law_one_of.kp T.b_law_one_of .nil pass0 (pa_cons (pv 0) (pa_cons (pe_lst (pa_cons pe_str (pa_cons pe_str (pa_cons pe_str (pa_cons pe_str (pa_cons pe_str pa_nil)))))) pa_nil))) pe_int) po_none (po_some (pv 3))))) pss_nil)
      (pss_one (ps_ret (pe_join pe_str (pe_lc (own := [("k", 4)]) (g := (gName 4)) (tt := tYes)  rfl sc_law_draw_text.nd (pi_range1 rfl T.z_range (pa_cons (pv 3) pa_nil)) (blkOk_by (own := [("k", 4)]) (N := ["pen", "least", "most", "size", "k"]) (sc := defScope s_law_draw_text) (by decide +kernel)) (fun _ _ _ _ _ => (pg_name (i := 4) sc_law_draw_text.nd rfl (Or.inl rfl))) (fun _ _ _ _ _ => pts_nil) (fun _ _ _ _ _ => (pe_ix ix_str (pe_call0 (ok_law_signs T) (hr.mono (by decide)) rfl T.g_law_signs T.F_law_signs.kp T.b_law_signs .nil pass0) (pe_call (ok_law_take T) (hr.mono (by decide)) rfl T.g_law_take T.F_law_take.kp T.b_law_take .nil pass0 (pa_cons (pv 0) (pa_cons pe_int pa_nil))) (fun _ _ => rfl)))))))))), ?_⟩
    refine ⟨_, rfl, _, rfl, _, rfl, _, rfl, _, rfl, _, rfl, _, rfl, _, _, rfl, rfl, _, _, rfl, rfl, p, c, n, _, rfl, hp, by omega, by omega, by omega, fun r H1 h0 h1 d1 => ?_⟩
    refine ⟨_, _, rfl, rfl, _, rfl, _, rfl, _, _, rfl, rfl, _, _, rfl, _, rfl, _, _, rfl, by show 5 ≤ sizeLine; decide, fun l hl => ?_⟩
    refine ⟨p, c, l, n + 1, _, rfl, d1.pen.keep (Same.new hl), SqL.of upd_same, Ne.symm (d1.pen.ne hl), by simp, by simp, by omega, fun x H2 hx d2 => ?_⟩
    have hx' : ∃ z : Int, x = .int z ∧ 0 ≤ z ∧ z ≤ b := by
      simp only [List.mem_cons, List.not_mem_nil, or_false] at hx
      rcases hx with h | h | h | h | h
      · exact ⟨_, h, by omega, by omega⟩
      · exact ⟨_, h, by omega, by omega⟩
      · exact ⟨_, h, by omega, by omega⟩
      · exact ⟨_, h, by split <;> omega, by split <;> omega⟩
      · exact ⟨_, h, by split <;> omega, by split <;> omega⟩
    obtain ⟨z, rfl, hz0, hz1⟩ := hx'
    have d12 : Drew p c H H2 (n + 2) := ⟨d2.pen, (d1.but.trans (But.new hl)).trans d2.but⟩
    refine ⟨fun σ' H' => ∃ k : Nat, σ' = [some (.ref p), some (.int (a : Nat)), some (.int (b : Nat)), some (.int (k : Nat)), none] ∧ a ≤ k ∧ k ≤ b ∧ H2 = H', ?_, ?_⟩
    · refine ⟨_, rfl, _, rfl, _, _, rfl, ?_⟩
      have e : (if z > (a : Int) then z else (a : Int)) = (((if z > (a : Int) then z else (a : Int)).toNat : Nat) : Int) := by split <;> omega
      refine ⟨(if z > (a : Int) then z else (a : Int)).toNat, ?_, ?_, ?_, rfl⟩
      · rw [← e]; rfl
      · split <;> omega
      · split <;> omega
    · rintro σ' H' ⟨k, rfl, hk0, hk1, rfl⟩
      refine ⟨_, rfl, p, c, n + 2, _, rfl, d12.pen, by omega, by omega, by omega, fun r3 H3 h30 h31 d3 => ?_⟩
      have d123 := d12.trans d3
      refine ⟨rfl, _, rfl, ?_⟩
      refine ifb (fun _ => ?_) (fun _ => ?_)
      · refine ⟨_, rfl, by show 5 ≤ sizeLine; decide, fun l2 hl2 => ?_⟩
        refine ⟨p, c, l2, n + 3, _, rfl, d123.pen.keep (Same.new hl2), SqL.of upd_same, Ne.symm (d123.pen.ne hl2), by simp, by simp, by omega, fun x H4 hx d4 => ?_⟩
        have hw : ∃ y ∈ textWords, x = .str y := by
          simp only [List.mem_cons, List.not_mem_nil, or_false] at hx
          rcases hx with h | h | h | h | h
          · exact ⟨_, by decide, h⟩
          · exact ⟨_, by decide, h⟩
          · exact ⟨_, by decide, h⟩
          · exact ⟨_, by decide, h⟩
          · exact ⟨_, by decide, h⟩
        obtain ⟨y, hy, rfl⟩ := hw
        have ok := List.all_eq_true.mp words_ok y hy
        simp only [Bool.and_eq_true, decide_eq_true_eq] at ok
        obtain ⟨⟨ok1, ok2⟩, ok3⟩ := ok
        refine ⟨y, 9, rfl, rfl, by decide, by decide, ok2, by omega, ?_⟩
        have hrl := rep_len y 9
        refine ⟨_, rfl, _, rfl, _, rfl, ?_, ?_⟩
        · exact len100 (by show (repS y 9).length ≤ 100000; omega)
        · refine q _ H4 ?_ ⟨d4.pen.mono (by omega), (d123.but.trans (But.new hl2)).trans d4.but⟩
          have hl9 : (repS y 9).cps.toList.length = 9 * y.length := by rw [← str_len]; exact hrl
          refine txt_cut (x := repS y 9) ?_ ⟨ha1, hk0, hk1⟩ (rep_all ok1)
          omega
      · refine ⟨⟨_, rfl⟩, _, rfl, _, rfl, by omega, by omega, fun D hD => ?_⟩
        refine lc_gen walk_range (fun i ys H' => Drew p c H3 H' (n + 3 + i) ∧ ∃ cs : List Nat, ys = cs.map (fun c => V.str ⟨#[c]⟩) ∧ cs.all isChar = true) (by omega) ?_ (fun _ _ _ _ => True.intro) ?_ ?_
        · exact ⟨⟨(d123.pen.upd (d123.pen.ne hD) (d123.pen.nec hD)).mono (by omega), But.new hD⟩, [], rfl, rfl⟩
        · rintro i ys x H' H'' Q' Z hi hl hDl ⟨d4, cs, rfl, hcs⟩ ⟨rfl, rfl⟩ q'
          refine ⟨rfl, yesI ?_⟩
          refine ⟨rfl, _, rfl, p, c, n + 3 + i, _, rfl, d4.pen, by omega, by omega, by omega, fun r5 H5 h50 h51 d5 => ?_⟩
          have hr5 : r5.toNat < charCodes.length := by
            have : charCodes.length = 43 := rfl
            omega
          have e5 : charCodes[r5.toNat]? = some charCodes[r5.toNat] := List.getElem?_eq_getElem hr5
          have e6 : signs.cps.toList[r5.toNat]? = some charCodes[r5.toNat] := by rw [signs_cps]; exact e5
          refine ⟨signs, r5, charCodes[r5.toNat], rfl, rfl, by decide, at_ofN (j := r5.toNat) (by omega) e6, ?_⟩
          have npD : p ≠ D := d123.pen.ne hD
          have ncD : c ≠ D := d123.pen.nec hD
          refine q' _ H5 (d5.but D _ (Ne.symm npD) hDl) ⟨⟨(d5.pen.upd npD ncD).mono (by omega), (d4.but.trans d5.but).put hD⟩, cs ++ [charCodes[r5.toNat]], ?_, ?_⟩
          · rw [List.map_append]; rfl
          · rw [List.all_append, hcs]
            have : isChar charCodes[r5.toNat] = true := List.contains_iff_mem.mpr (List.getElem_mem hr5)
            simp [this]
        · rintro ys H' hl hDl ⟨d4, cs, rfl, hcs⟩
          rw [List.length_map] at hl
          refine ⟨"", D, cs.map (fun c => (⟨#[c]⟩ : Str)), rfl, rfl, .inl (SqL.of (by rw [hDl, List.map_map]; rfl)), ?_, ?_⟩
          · have e0 : ("" : Str).length = 0 := rfl
            have e1 : ((cs.map (fun c => (⟨#[c]⟩ : Str))).map (·.length)).sum = cs.length := by
              rw [List.map_map]
              clear hcs hDl hl
              induction cs with
              | nil => rfl
              | cons a r ih => rw [List.map_cons, List.sum_cons, ih, List.length_cons]; show 1 + r.length = _; omega
            rw [e1, e0]
            omega
          · have ej : Txt.join "" (cs.map (fun c => (⟨#[c]⟩ : Str))) = ⟨cs.toArray⟩ := join_signs cs
            rw [ej]
            have e2 : (⟨cs.toArray⟩ : Str).length = cs.length := by show cs.toArray.size = _; simp
            refine q _ H' (txt_of (by omega) (by omega) ?_) (d123.trans (d4.mono (by omega)))
            show cs.toArray.toList.all isChar = true
            simpa using hcs

theorem same_zip {xs ys : List V} {ds : List PyData} {n : Nat} {H : Hp} {i : Nat} {x y : V} (ax : DpAll K H xs ds) (ay : DpAll K H ys ds) (hd : ∀ d ∈ ds, DLe n d) (hx : xs[i]? = some x) (hy : ys[i]? = some y) :
    ∃ d, Dp K H x d ∧ Dp K H y d ∧ DLe n d := by
  obtain ⟨d, h1, h2⟩ := dpAll_at ax hx
  obtain ⟨e, h3, h4⟩ := dpAll_at ay hy
  rw [h1] at h3
  cases h3
  exact ⟨d, h2, h4, hd d (List.mem_of_getElem? h1)⟩
theorem ok_NoOctets_init (T : Txt K mg) : FnOk P w K mg base CX0 1 T.f_NoOctets_init T.d_NoOctets_init ["self", "place"] (sp_err T.C_NoOctets "place") := by
  refine T.F_NoOctets_init.ok sc_NoOctets_init (fun vs H Q E h => ?_) (fun cdv A outer s H vs Q E hr h => ?_)
  · obtain ⟨a, k, rfl, _⟩ := h
    rfl
  · obtain ⟨a, k, rfl, hk, ha, q⟩ := h
    refine ⟨_, (pss_cons (ps_expr (pe_feinit T.B_FieldError rfl (pa_cons (pv 0) (pa_cons (pe_joined (.cons pe_str (.cons (pe_fmt (pv 1)) .nil))) pa_nil))))
      (pss_one (ps_ost (pv 0) (pv 1)))), ?_⟩
    have ht := toString_le hk
    have hz : (Str.empty ++ (("the octets cannot be read at the place " : String) : Str)).length = 39 := by decide +kernel
    refine ⟨_, rfl, _, rfl, by rw [hz, sizeLine_eq]; decide, _, rfl, .inr ⟨k, rfl, log_le hk, _, rfl, ?_, ?_⟩⟩
    · rw [strLen_append, hz, sizeLine_eq]
      omega
    refine ⟨a, T.C_NoOctets, _, rfl, by show 1 ≤ 1000; decide, T.E_NoOctets.ox, ha, ?_⟩
    exact ⟨_, rfl, _, rfl, a, T.C_NoOctets, rfl, T.E_NoOctets.ox, T.E_NoOctets.no, .inl ⟨ha, q⟩⟩
theorem ok_Reader_init (T : Txt K mg) : FnOk P w K mg base CX0 1 T.f_Reader_init T.d_Reader_init ["self", "octets"] (sp_Reader_init K) := by
  refine T.F_Reader_init.ok sc_Reader_init (fun vs H Q E h => ?_) (fun cdv A outer s H vs Q E hr h => ?_)
  · obtain ⟨r, a, C, dx, rfl, _⟩ := h
    rfl
  · obtain ⟨r, a, C, dx, rfl, hr0, c, n1, n2, q⟩ := h
    refine ⟨_, (pss_cons (ps_fld (pv 0) (pv 1) rfl)
      (pss_one (ps_fld (pv 0) pe_int rfl))), ?_⟩
    refine ⟨_, rfl, _, rfl, _, _, _, _, rfl, hr0, c, n1, by decide, ?_⟩
    refine ⟨_, rfl, _, _, _, _, rfl, upd_same, c, n2, by show 1 < 1000; decide, ?_⟩
    refine q _ (fun b hb => ?_) upd_same
    rw [upd_ne hb, upd_ne hb]
theorem ok_Reader_at_end (T : Txt K mg) : FnOk P w K mg base CX0 1 T.f_Reader_at_end T.d_Reader_at_end ["self"] (sp_Reader_at_end K T.C_Reader) := by
  refine T.F_Reader_at_end.ok sc_Reader_at_end (fun vs H Q E h => ?_) (fun cdv A outer s H vs Q E hr h => ?_)
  · obtain ⟨r, a, os, k, rfl, _⟩ := h
    rfl
  · obtain ⟨r, a, os, k, rfl, R, q⟩ := h
    obtain ⟨dx, e⟩ := R.ex
    refine ⟨_, (pss_one (ps_ret (pe_cmpR op_eq (pe_fld (pv 0) rfl) (pe_callB call_len rfl T.z_len boot_len (pa_cons (pe_fld (pv 0) rfl) pa_nil)) (nomark _)))), ?_⟩
    refine ⟨_, rfl, _, _, _, _, _, rfl, e, T.cl_Reader, T.nA_Reader_place, rfl, ?_⟩
    refine ⟨_, rfl, _, _, _, _, _, rfl, e, T.cl_Reader, T.nA_Reader_octets, rfl, ?_⟩
    refine ⟨_, _, rfl, lenL R.sq, rfl, Q_bl q ?_⟩
    rw [List.length_map]
    exact decide_eq_decide.mpr ⟨fun h => h ▸ rfl, fun h => by injection h with h; omega⟩
theorem ok_Reader_look (T : Txt K mg) : FnOk P w K mg base (CX P w) 3 T.f_Reader_look T.d_Reader_look ["self"] (sp_Reader_look K T.C_Reader T.C_NoOctets) := by
  refine T.F_Reader_look.okX sc_Reader_look (fun vs H Q E h => ?_) (fun cdv A outer s H vs Q E hr h => ?_)
  · obtain ⟨r, a, os, k, rfl, _⟩ := h
    rfl
  · obtain ⟨r, a, os, k, rfl, R, q1, q2⟩ := h
    obtain ⟨dx, e⟩ := R.ex
    refine ⟨_, (pss_cons (ps_if (pt_val (pe_meth0 (pv 0) T.cl_Reader T.m_Reader_at_end (ok_Reader_at_end T) (hr.mono (by decide)) T.b_Reader_at_end .nil pass0)) (pss_one (ps_raiseE rfl T.E_NoOctets (ok_NoOctets_init T) (hr.mono (by decide)) T.b_NoOctets_init pass0 (takes_of rfl rfl rfl rfl) rfl (pa_cons (pe_fld (pv 0) rfl) pa_nil))) pss_nil)
      (pss_one (ps_ret (pe_ix ix_list (pe_fld (pv 0) rfl) (pe_fld (pv 0) rfl) (fun _ _ => rfl))))), ?_⟩
    refine ⟨_, rfl, r, dx, _, rfl, e, rfl, r, a, os, k, rfl, R, _, rfl, ifb (fun h => ?_) (fun h => ?_)⟩
    · have hk : k = os.length := of_decide_eq_true h
      refine ⟨_, rfl, _, _, _, _, _, rfl, e, T.cl_Reader, T.nA_Reader_place, rfl, err_go (small_int R) fun d H' s1 _ h2 => ?_⟩
      exact q1 (List.getElem?_eq_none_iff.mpr (by omega)) d H' (But.of s1) h2
    · have hk : k ≠ os.length := of_decide_eq_false h
      have hl := R.le
      obtain ⟨o, ho⟩ : ∃ o, os[k]? = some o := ⟨os[k]'(by omega), List.getElem?_eq_getElem _⟩
      refine ⟨_, rfl, _, _, _, _, _, rfl, e, T.cl_Reader, T.nA_Reader_octets, rfl, ?_⟩
      refine ⟨_, rfl, _, _, _, _, _, rfl, e, T.cl_Reader, T.nA_Reader_place, rfl, ?_⟩
      exact ⟨_, _, _, _, rfl, rfl, R.sq, at_ofN rfl (by rw [List.getElem?_map, ho]; rfl), q2 o ho⟩
theorem ok_Reader_accept (T : Txt K mg) : FnOk P w K mg base (CX P w) 3 T.f_Reader_accept T.d_Reader_accept ["self", "fits"] (sp_Reader_accept K T.C_Reader T.C_NoOctets) := by
  refine T.F_Reader_accept.okX sc_Reader_accept (fun vs H Q E h => ?_) (fun cdv A outer s H vs Q E hr h => ?_)
  · obtain ⟨r, a, os, k, b, rfl, _⟩ := h
    rfl
  · obtain ⟨r, a, os, k, b, rfl, R, hk, q1, q2⟩ := h
    obtain ⟨dx, e⟩ := R.ex
    refine ⟨_, (pss_cons (ps_if (pt_not (pt_val (pv 1))) (pss_one (ps_raiseE rfl T.E_NoOctets (ok_NoOctets_init T) (hr.mono (by decide)) T.b_NoOctets_init pass0 (takes_of rfl rfl rfl rfl) rfl (pa_cons (pe_fld (pv 0) rfl) pa_nil))) pss_nil)
      (pss_one (ps_fldaug (pv 0) pe_int in_add))), ?_⟩
    cases b with
    | false =>
      refine ⟨_, rfl, _, rfl, iteT ?_⟩
      refine ⟨_, rfl, _, _, _, _, _, rfl, e, T.cl_Reader, T.nA_Reader_place, rfl, err_go (small_int R) fun d H' s1 _ h2 => ?_⟩
      exact q1 rfl d H' (But.of s1) h2
    | true =>
      refine ⟨_, rfl, _, rfl, ifF rfl ?_⟩
      refine ⟨_, rfl, _, _, _, _, _, rfl, e, T.cl_Reader, T.nA_Reader_place, rfl, _, _, rfl, rfl, _, _, e, by show 2 < 1000; decide, ?_⟩
      exact q2 rfl _ But.set ⟨⟨_, upd_same⟩, But.seq (p := r) (H := H) But.set R.ne R.sq, R.ne, R.lt, R.len, hk⟩
theorem ok_Reader_finish (T : Txt K mg) : FnOk P w K mg base (CX P w) 3 T.f_Reader_finish T.d_Reader_finish ["self"] (sp_Reader_finish K T.C_Reader T.C_NoOctets) := by
  refine T.F_Reader_finish.okX sc_Reader_finish (fun vs H Q E h => ?_) (fun cdv A outer s H vs Q E hr h => ?_)
  · obtain ⟨r, a, os, k, rfl, _⟩ := h
    rfl
  · obtain ⟨r, a, os, k, rfl, R, q1, q2⟩ := h
    obtain ⟨dx, e⟩ := R.ex
    refine ⟨_, (pss_one (ps_if (pt_not (pt_val (pe_meth0 (pv 0) T.cl_Reader T.m_Reader_at_end (ok_Reader_at_end T) (hr.mono (by decide)) T.b_Reader_at_end .nil pass0))) (pss_one (ps_raiseE rfl T.E_NoOctets (ok_NoOctets_init T) (hr.mono (by decide)) T.b_NoOctets_init pass0 (takes_of rfl rfl rfl rfl) rfl (pa_cons (pe_fld (pv 0) rfl) pa_nil))) pss_nil)), ?_⟩
    refine ⟨_, rfl, r, dx, _, rfl, e, rfl, r, a, os, k, rfl, R, _, rfl, ifb (fun h => ?_) (fun h => ?_)⟩
    · have hk : k ≠ os.length := fun z => by rw [decide_eq_true z] at h; cases h
      refine ⟨_, rfl, _, _, _, _, _, rfl, e, T.cl_Reader, T.nA_Reader_place, rfl, err_go (small_int R) fun d H' s1 _ h2 => ?_⟩
      exact q1 hk d H' (But.of s1) h2
    · exact q2 (Classical.byContradiction fun z => by rw [decide_eq_false z] at h; cases h)

theorem ok_Reader_take_rest (T : Txt K mg) : FnOk P w K mg base (CX P w) 4 T.f_Reader_take_rest T.d_Reader_take_rest ["self", "most"] (sp_Reader_take_rest K T.C_Reader T.C_NoOctets) := by
  refine T.F_Reader_take_rest.okX sc_Reader_take_rest (fun vs H Q E h => ?_) (fun cdv A outer s H vs Q E hr h => ?_)
  · obtain ⟨r, a, os, k, most, rfl, _⟩ := h
    rfl
  · obtain ⟨r, a, os, k, most, rfl, R, hm, q⟩ := h
    refine ⟨_, (pss_cons (ps_set (i := 2) sc_Reader_take_rest.nd rfl (Or.inl rfl) pe_int)
      (pss_cons (ps_set (i := 3) sc_Reader_take_rest.nd rfl (Or.inl rfl) pe_int)
      (pss_cons (ps_while (passes_of rfl) (pt_cmpR op_ge (pe_meth0 (pv 0) T.cl_Reader T.m_Reader_look (ok_Reader_look T) (hr.mono (by decide)) T.b_Reader_look .nil (passes_call (takes_of rfl rfl rfl rfl) (fun _ _ _ _ h => h))) pe_int (nomark _))
        (pss_cons (ps_aug (i := 2) sc_Reader_take_rest.nd rfl (Or.inl rfl) (pe_op op_mul (pe_op op_sub (pe_meth0 (pv 0) T.cl_Reader T.m_Reader_look (ok_Reader_look T) (hr.mono (by decide)) T.b_Reader_look .nil (passes_call (takes_of rfl rfl rfl rfl) (fun _ _ _ _ h => h))) pe_int) (pv 3)) ip_add)
      (pss_cons (ps_set (i := 3) sc_Reader_take_rest.nd rfl (Or.inl rfl) (pe_op op_mul (pv 3) pe_int))
      (pss_one (ps_expr (pe_meth (pv 0) T.cl_Reader T.m_Reader_accept (ok_Reader_accept T) (hr.mono (by decide)) T.b_Reader_accept .nil (passes_call (takes_of rfl rfl rfl rfl) (fun _ _ _ _ h => h)) (pa_cons (pe_cmpR op_le (pe_op op_add (pv 2) (pv 3)) (pv 1) (nomark _)) pa_nil)))))))
      (pss_cons (ps_set (i := 4) sc_Reader_take_rest.nd rfl (Or.inl rfl) (pe_meth0 (pv 0) T.cl_Reader T.m_Reader_look (ok_Reader_look T) (hr.mono (by decide)) T.b_Reader_look .nil (passes_call (takes_of rfl rfl rfl rfl) (fun _ _ _ _ h => h))))
      (pss_cons (ps_aug (i := 2) sc_Reader_take_rest.nd rfl (Or.inl rfl) (pe_op op_mul (pv 4) (pv 3)) ip_add)
      (pss_cons (ps_expr (pe_meth (pv 0) T.cl_Reader T.m_Reader_accept (ok_Reader_accept T) (hr.mono (by decide)) T.b_Reader_accept .nil (passes_call (takes_of rfl rfl rfl rfl) (fun _ _ _ _ h => h)) (pa_cons (pe_and (pe_cmpR op_le (pv 2) (pv 1) (nomark _)) (pe_one (pe_or (pe_cmpR op_gt (pv 4) pe_int (nomark _)) (pe_one (pe_cmpR op_eq (pv 3) pe_int (nomark _)))))) pa_nil)))
      (pss_one (ps_ret (pv 2))))))))), ?_⟩
    let W : Nat → L2.St → Hp → Prop := fun m σ H' => ∃ (k' : Nat) (z wt : Int), σ = [some (.ref r), some (.int most), some (.int z), some (.int wt), none] ∧ Rd K T.C_Reader H' r a os k' ∧ But r H H' ∧ m = os.length - k' ∧
      takeRest most (os.drop k') k' z wt = takeRest most (os.drop k) k 0 1 ∧ 0 ≤ z ∧ 1 ≤ wt ∧ wt ≤ 1000000
    refine ⟨W, ⟨_, k, 0, 1, rfl, R, But.refl _ _, rfl, rfl, by decide, by decide, by decide⟩, ?_⟩
    rintro m σ H1 ⟨k', z, wt, rfl, R1, b1, rfl, hE, hz, hw1, hw2⟩
    obtain ⟨dx, e⟩ := R1.ex
    refine ⟨_, rfl, r, dx, _, rfl, e, rfl, r, a, os, k', rfl, R1, fun hn => ?_, fun o ho => ?_⟩
    · rw [← hE, List.drop_eq_nil_of_le (Nat.le_of_eq (R1.end_ hn).symm)] at q
      exact RdErr.pre b1 q
    have hlt : k' < os.length := (List.getElem?_eq_some_iff.mp ho).1
    have hdr : os.drop k' = o :: os.drop (k' + 1) := by rw [List.drop_eq_getElem_cons hlt, (List.getElem?_eq_some_iff.mp ho).2]
    have ho2 := R1.get ho
    rw [hdr] at hE
    refine ⟨_, _, rfl, rfl, _, rfl, ifb (fun h => ?_) (fun h => ?_)⟩
    · have h' : 128 ≤ o := of_decide_eq_true h
      refine ⟨fun σ' H' => W (os.length - (k' + 1)) σ' H', fun σ' H' hW => ⟨_, by omega, hW⟩, ?_⟩
      refine ⟨_, rfl, _, rfl, r, dx, _, rfl, e, rfl, r, a, os, k', rfl, R1, fun hn => absurd (hn.symm.trans ho) (by simp), fun o' ho' => ?_⟩
      cases ho.symm.trans ho'
      refine ⟨_, _, rfl, rfl, _, rfl, _, _, rfl, rfl, .inl ⟨by omega, by omega⟩, _, _, rfl, rfl, ?_⟩
      refine ⟨_, rfl, _, _, rfl, rfl, .inl ⟨by omega, by omega⟩, ?_⟩
      refine ⟨_, rfl, r, dx, _, rfl, e, rfl, ?_⟩
      refine ⟨_, rfl, _, rfl, _, _, rfl, rfl, _, rfl, _, _, rfl, rfl, ?_⟩
      refine ⟨r, a, os, k', _, rfl, R1, hlt, fun hb => ?_, fun hb H2 b2 R2 => ?_⟩
      · rw [takeRest, if_pos h', if_neg (of_decide_eq_false hb)] at hE
        rw [← hE] at q
        exact RdErr.pre b1 q
      · have hb' : z + (o - 128) * wt + wt * 128 ≤ most := of_decide_eq_true hb
        rw [takeRest, if_pos h', if_pos hb'] at hE
        have h0 : 0 ≤ (o - 128) * wt := Int.mul_nonneg (by omega) (by omega)
        exact ⟨k' + 1, z + (o - 128) * wt, wt * 128, rfl, R2, b1.trans b2, rfl, hE, by omega, by omega, by omega⟩
    · have h' : ¬ 128 ≤ o := of_decide_eq_false h
      refine ⟨_, rfl, r, dx, _, rfl, e, rfl, r, a, os, k', rfl, R1, fun hn => absurd (hn.symm.trans ho) (by simp), fun o' ho' => ?_⟩
      cases ho.symm.trans ho'
      refine ⟨_, rfl, _, rfl, _, rfl, _, _, rfl, rfl, .inl ⟨by omega, by omega⟩, _, _, rfl, rfl, ?_⟩
      refine ⟨_, rfl, r, dx, _, rfl, e, rfl, ?_⟩
      have go : ∀ (b : Bool), b = decide (z + o * wt ≤ most ∧ (0 < o ∨ wt = 1)) → sp_Reader_accept K T.C_Reader T.C_NoOctets [.ref r, .bl b] H1 (fun _ H2 => ∃ v, (some (some (V.int (z + o * wt))) : Option (Option V)) = some (some v) ∧ Q v H2) E := by
        intro b hb
        refine ⟨r, a, os, k', _, rfl, R1, hlt, fun hf => ?_, fun ht H2 b2 R2 => ?_⟩
        · rw [hf] at hb
          rw [takeRest, if_neg h', if_neg (of_decide_eq_false hb.symm)] at hE
          rw [← hE] at q
          exact RdErr.pre b1 q
        · rw [ht] at hb
          rw [takeRest, if_neg h', if_pos (of_decide_eq_true hb.symm)] at hE
          rw [← hE] at q
          exact ⟨_, rfl, q _ H2 (b1.trans b2) R2 rfl⟩
      refine ⟨_, rfl, _, rfl, _, _, rfl, rfl, _, rfl, ifb (fun h1 => ?_) (fun h1 => ?_)⟩
      · have h1' : z + o * wt ≤ most := of_decide_eq_true h1
        refine ⟨_, rfl, _, _, rfl, rfl, _, rfl, ifb (fun h2 => ?_) (fun h2 => ?_)⟩
        · have h2' : 0 < o := of_decide_eq_true h2
          exact go _ (decide_eq_true ⟨h1', .inl h2'⟩).symm
        · have h2' : ¬ 0 < o := of_decide_eq_false h2
          refine ⟨_, rfl, rfl, ?_⟩
          have hd : decide (V.int wt = V.int 1) = decide (z + o * wt ≤ most ∧ (0 < o ∨ wt = 1)) := by
            refine decide_eq_decide.mpr ⟨fun h3 => ⟨h1', .inr (by injection h3)⟩, fun h3 => ?_⟩
            rcases h3.2 with h4 | h4
            · exact absurd h4 h2'
            · rw [h4]
          exact go _ hd
      · have h1' : ¬ z + o * wt ≤ most := of_decide_eq_false h1
        exact go _ (decide_eq_false fun h3 => h1' h3.1).symm
theorem ok_Reader_take_number (T : Txt K mg) : FnOk P w K mg base (CX P w) 5 T.f_Reader_take_number T.d_Reader_take_number ["self", "prefix", "mark", "least", "most"] (sp_Reader_take_number K T.C_Reader T.C_NoOctets) := by
  refine T.F_Reader_take_number.okX sc_Reader_take_number (fun vs H Q E h => ?_) (fun cdv A outer s H vs Q E hr h => ?_)
  · obtain ⟨r, a, os, k, b, m, least, most, rfl, _⟩ := h
    rfl
  · obtain ⟨r, a, os, k, b, m, least, most, rfl, R, hb, hm, q⟩ := h
    obtain ⟨dx, e⟩ := R.ex
    refine ⟨_, (pss_cons (ps_set (i := 5) sc_Reader_take_number.nd rfl (Or.inl rfl) (pe_call (ok_prefix_bits T) (hr.mono (by decide)) rfl T.g_prefix_bits T.F_prefix_bits.kp T.b_prefix_bits .nil pass0 (pa_cons (pv 1) pa_nil)))
      (pss_cons (ps_set (i := 6) sc_Reader_take_number.nd rfl (Or.inl rfl) (pe_op op_sub (pe_meth0 (pv 0) T.cl_Reader T.m_Reader_look (ok_Reader_look T) (hr.mono (by decide)) T.b_Reader_look .nil (passes_call (takes_of rfl rfl rfl rfl) (fun _ _ _ _ h => h))) (pv 2)))
      (pss_cons (ps_expr (pe_meth (pv 0) T.cl_Reader T.m_Reader_accept (ok_Reader_accept T) (hr.mono (by decide)) T.b_Reader_accept .nil (passes_call (takes_of rfl rfl rfl rfl) (fun _ _ _ _ h => h)) (pa_cons (pe_chain op_le op_le (pv 3) (pv 6) (pe_callB (call_min2 rfl) rfl T.z_min boot_min (pa_cons (pv 5) (pa_cons (pv 4) pa_nil)))) pa_nil)))
      (pss_cons (ps_if (pt_cmpR op_lt (pv 6) (pv 5) (nomark _)) (pss_one (ps_ret (pv 6))) pss_nil)
      (pss_one (ps_ret (pe_op op_add (pv 5) (pe_meth (pv 0) T.cl_Reader T.m_Reader_take_rest (ok_Reader_take_rest T) (hr.mono (by decide)) T.b_Reader_take_rest .nil (passes_call (takes_of rfl rfl rfl rfl) (fun _ _ _ _ h => h)) (pa_cons (pe_op op_sub (pv 4) (pv 5)) pa_nil))))))))), ?_⟩
    refine ⟨_, rfl, b, rfl, by omega, ?_⟩
    refine ⟨_, rfl, r, dx, _, rfl, e, rfl, r, a, os, k, rfl, R, fun hn => ?_, fun o ho => ?_⟩
    · rw [takeNum, hn] at q
      exact q
    rw [takeNum, ho] at q
    have hlt : k < os.length := (List.getElem?_eq_some_iff.mp ho).1
    have hp := bits_cast b
    have hp8 := pow_le8 hb
    have hp0 := pow_pos2 b
    rw [hp]
    refine ⟨_, rfl, _, _, rfl, rfl, ?_⟩
    refine ⟨_, rfl, r, dx, _, rfl, e, rfl, ?_⟩
    have hmin : (if most < ((2 ^ b - 1 : Nat) : Int) then most else ((2 ^ b - 1 : Nat) : Int)) = min ((2 ^ b - 1 : Nat) : Int) most := by
      by_cases h : most < ((2 ^ b - 1 : Nat) : Int)
      · rw [if_pos h]; omega
      · rw [if_neg h]; omega
    have go1 : ∀ (bb : Bool), bb = decide (least ≤ o - (m : Int) ∧ o - (m : Int) ≤ min ((2 ^ b - 1 : Nat) : Int) most) → bb = false → RdErr T.C_NoOctets r H E k := by
      intro bb hb hf
      dsimp only at q
      rw [if_neg (of_decide_eq_false (hb.symm.trans hf))] at q
      exact q
    have go2 : ∀ (bb : Bool), bb = decide (least ≤ o - (m : Int) ∧ o - (m : Int) ≤ min ((2 ^ b - 1 : Nat) : Int) most) → bb = true → ∀ H1, But r H H1 → RdRes K T.C_Reader T.C_NoOctets r a os H1 Q E rInt (if o - (m : Int) < ((2 ^ b - 1 : Nat) : Int) then .ok (o - m, k + 1)
       else (takeRest (most - ((2 ^ b - 1 : Nat) : Int)) (os.drop (k + 1)) (k + 1) 0 1).map fun z => (((2 ^ b - 1 : Nat) : Int) + z.1, z.2)) := by
      intro bb hb hf H1 b1
      dsimp only at q
      rw [if_pos (of_decide_eq_true (hb.symm.trans hf))] at q
      exact q.pre b1
    refine ⟨_, rfl, _, rfl, _, _, rfl, rfl, _, rfl, ifb (fun h1 => ?_) (fun h1 => ?_)⟩
    · refine ⟨_, rfl, _, rfl, _, _, rfl, _, _, rfl, rfl, ?_⟩
      have h1' : least ≤ o - (m : Int) := of_decide_eq_true h1
      have hd : decide (o - (m : Int) ≤ (if most < ((2 ^ b - 1 : Nat) : Int) then most else ((2 ^ b - 1 : Nat) : Int))) = decide (least ≤ o - (m : Int) ∧ o - (m : Int) ≤ min ((2 ^ b - 1 : Nat) : Int) most) := by
        rw [hmin]
        exact decide_eq_decide.mpr ⟨fun h => ⟨h1', h⟩, fun h => h.2⟩
      refine ⟨r, a, os, k, _, rfl, R, hlt, fun hb => go1 _ hd hb, fun hb H1 b1 R1 => ?_⟩
      have q1 := go2 _ hd hb H1 b1
      obtain ⟨dx1, e1⟩ := R1.ex
      refine ⟨_, rfl, _, rfl, _, _, rfl, rfl, _, rfl, ifb (fun h2 => ?_) (fun h2 => ?_)⟩
      · have h2' : o - (m : Int) < ((2 ^ b - 1 : Nat) : Int) := of_decide_eq_true h2
        rw [if_pos h2'] at q1
        exact ⟨_, rfl, q1 _ H1 (But.refl _ _) R1 rfl⟩
      · have h2' : ¬ o - (m : Int) < ((2 ^ b - 1 : Nat) : Int) := of_decide_eq_false h2
        rw [if_neg h2'] at q1
        refine ⟨_, rfl, _, rfl, r, dx1, _, rfl, e1, rfl, _, rfl, _, rfl, _, _, rfl, rfl, ?_⟩
        refine ⟨r, a, os, k + 1, _, rfl, R1, by omega, ?_⟩
        revert q1
        cases takeRest (most - ((2 ^ b - 1 : Nat) : Int)) (os.drop (k + 1)) (k + 1) 0 1 with
        | error z => exact fun q1 => q1
        | ok z =>
          intro q1 v H2 b2 R2 hv
          cases hv
          exact ⟨_, _, rfl, rfl, q1 _ H2 b2 R2 rfl⟩
    · have h1' : ¬ least ≤ o - (m : Int) := of_decide_eq_false h1
      have hd : false = decide (least ≤ o - (m : Int) ∧ o - (m : Int) ≤ min ((2 ^ b - 1 : Nat) : Int) most) := (decide_eq_false fun h => h1' h.1).symm
      exact ⟨r, a, os, k, _, rfl, R, hlt, fun hb => go1 _ hd hb, fun hb => nomatch hb⟩
theorem ok_Reader_take_string (T : Txt K mg) : FnOk P w K mg base (CX P w) 6 T.f_Reader_take_string T.d_Reader_take_string ["self", "prefix", "mark", "least", "most"] (sp_Reader_take_string K T.C_Reader T.C_NoOctets) := by
  refine T.F_Reader_take_string.okX sc_Reader_take_string (fun vs H Q E h => ?_) (fun cdv A outer s H vs Q E hr h => ?_)
  · obtain ⟨r, a, os, k, b, m, least, most, rfl, _⟩ := h
    rfl
  · obtain ⟨r, a, os, k, b, m, least, most, rfl, R, hb, hl0, hm, q⟩ := h
    obtain ⟨dx, e⟩ := R.ex
    refine ⟨_, (pss_cons (ps_set (i := 5) sc_Reader_take_string.nd rfl (Or.inl rfl) (pe_meth (pv 0) T.cl_Reader T.m_Reader_take_number (ok_Reader_take_number T) (hr.mono (by decide)) T.b_Reader_take_number .nil (passes_call (takes_of rfl rfl rfl rfl) (fun _ _ _ _ h => h)) (pa_cons (pv 1) (pa_cons (pv 2) (pa_cons (pv 3) (pa_cons (pv 4) pa_nil))))))
      (pss_cons (ps_set (i := 6) sc_Reader_take_string.nd rfl (Or.inl rfl) pe_str)
      (pss_cons (ps_for (passes_of rfl) rfl (pi_range1 rfl T.z_range (pa_cons (pv 5) pa_nil)) (pg_name (i := 7) sc_Reader_take_string.nd rfl (Or.inl rfl))
        (pss_cons (ps_set (i := 8) sc_Reader_take_string.nd rfl (Or.inl rfl) (pe_meth0 (pv 0) T.cl_Reader T.m_Reader_look (ok_Reader_look T) (hr.mono (by decide)) T.b_Reader_look .nil (passes_call (takes_of rfl rfl rfl rfl) (fun _ _ _ _ h => h))))
      (pss_cons (ps_expr (pe_meth (pv 0) T.cl_Reader T.m_Reader_accept (ok_Reader_accept T) (hr.mono (by decide)) T.b_Reader_accept .nil (passes_call (takes_of rfl rfl rfl rfl) (fun _ _ _ _ h => h)) (pa_cons (pe_cmpR (op_in_kdI T.CHARACTERS_d) (pv 8) (pe_glob (v := .ref T.a_CHARACTERS) rfl T.g_CHARACTERS rfl) rfl) pa_nil)))
      (pss_one (ps_aug (i := 6) sc_Reader_take_string.nd rfl (Or.inl rfl) (pe_ix (ix_kdI T.CHARACTERS_d) (pe_glob (v := .ref T.a_CHARACTERS) rfl T.g_CHARACTERS rfl) (pv 8) (fun _ _ => rfl)) ip_addT)))))
      (pss_one (ps_ret (pv 6)))))), ?_⟩
    refine ⟨_, rfl, r, dx, _, rfl, e, rfl, _, rfl, _, rfl, _, rfl, _, rfl, ?_⟩
    refine ⟨r, a, os, k, b, m, least, most, rfl, R, hb, by omega, ?_⟩
    rw [takeStr] at q
    revert q
    have hbd := takeNum_bound os b m least most k (fun o ho => (R.lt o ho).1)
    revert hbd
    cases takeNum os b m least most k with
    | error z => exact fun _ q => q
    | ok z =>
      intro hbd q v H1 b1 R1 hv
      cases hv
      obtain ⟨n, k1⟩ := z
      obtain ⟨hn1, hn2⟩ := hbd n k1 rfl
      obtain ⟨nn, rfl⟩ : ∃ nn : Nat, n = (nn : Int) := ⟨n.toNat, by omega⟩
      dsimp only at q
      rw [Int.toNat_natCast] at q
      refine ⟨_, rfl, _, rfl, by omega, by omega, ?_⟩
      refine for_range (lo := 0) (n := ((nn : Nat) : Int).toNat) (fun i σ H' => ∃ (k' : Nat) (cs : List Nat) (v7 v8 : Option V), σ = [some (.ref r), some (.int (b : Nat)), some (.int (m : Nat)), some (.int least), some (.int most), some (.int (nn : Nat)), some (.str ⟨cs.toArray⟩), v7, v8] ∧
        Rd K T.C_Reader H' r a os k' ∧ But r H H' ∧ cs.length = i ∧ takeChars nn (os.drop k1) k1 = (takeChars (nn - i) (os.drop k') k').map fun z => (cs ++ z.1, z.2)) ⟨k1, [], _, _, rfl, R1, b1, rfl, ?_⟩ ?_ ?_
      · cases takeChars nn (os.drop k1) k1 <;> rfl
      · rintro i σ H2 hi ⟨k', cs, v7, v8, rfl, R2, b2, hcs, hE⟩
        rw [Int.toNat_natCast] at hi
        obtain ⟨dx2, e2⟩ := R2.ex
        have hni : nn - i = (nn - (i + 1)) + 1 := by omega
        rw [hni] at hE
        refine ⟨_, rfl, r, dx2, _, rfl, e2, rfl, r, a, os, k', rfl, R2, fun hn => ?_, fun o ho => ?_⟩
        · rw [List.drop_eq_nil_of_le (Nat.le_of_eq (R2.end_ hn).symm), takeChars] at hE
          rw [hE] at q
          exact RdErr.pre b2 q
        have hlt : k' < os.length := (List.getElem?_eq_some_iff.mp ho).1
        have hdr : os.drop k' = o :: os.drop (k' + 1) := by rw [List.drop_eq_getElem_cons hlt, (List.getElem?_eq_some_iff.mp ho).2]
        rw [hdr, takeChars] at hE
        have ho2 := R2.get ho
        obtain ⟨c, rfl⟩ : ∃ c : Nat, o = (c : Int) := ⟨o.toNat, by omega⟩
        rw [Int.toNat_natCast] at hE
        refine ⟨_, rfl, r, dx2, _, rfl, e2, rfl, _, rfl, _, rfl, rfl, ?_⟩
        refine ⟨r, a, os, k', _, rfl, R2, hlt, fun hf => ?_, fun ht H3 b3 R3 => ?_⟩
        · rw [valI_chars] at hf
          cases hc : isChar c with
          | true => rw [hc] at hf; cases hf
          | false =>
            rw [hc, if_neg (by decide)] at hE
            rw [hE] at q
            exact RdErr.pre b2 q
        · rw [valI_chars] at ht
          cases hc : isChar c with
          | false => rw [hc] at ht; cases ht
          | true =>
            rw [hc, if_pos rfl] at hE
            refine ⟨_, rfl, _, rfl, c, .str ⟨#[c]⟩, rfl, rfl, by rw [valI_chars, hc]; rfl, _, _, rfl, rfl, ?_, ?_⟩
            · show cs.toArray.size + 1 ≤ sizeLine
              rw [List.size_toArray, sizeLine_eq]
              omega
            · refine ⟨k' + 1, cs ++ [c], some (.int (0 + (i : Int))), some (.int (c : Nat)), ?_, R3, b2.trans b3, by rw [List.length_append, hcs]; rfl, ?_⟩
              · have hst : ((⟨cs.toArray⟩ : Str) ++ (⟨#[c]⟩ : Str)) = ⟨(cs ++ [c]).toArray⟩ := by
                  show Str.mk (cs.toArray ++ #[c]) = _
                  simp
                rw [hst]
                rfl
              · rw [hE]
                cases takeChars (nn - (i + 1)) (os.drop (k' + 1)) (k' + 1) with
                | error z => rfl
                | ok z =>
                  show Except.ok (cs ++ (c :: z.1), z.2) = Except.ok (cs ++ [c] ++ z.1, z.2)
                  rw [List.append_assoc]
                  rfl
      · rintro σ H2 ⟨k', cs, v7, v8, rfl, R2, b2, hcs, hE⟩
        rw [Int.toNat_natCast, Nat.sub_self, takeChars] at hE
        rw [hE] at q
        refine ⟨_, rfl, q _ H2 b2 R2 ?_⟩
        show V.str ⟨cs.toArray⟩ = V.str ⟨(cs ++ []).toArray⟩
        rw [List.append_nil]
theorem ok_Reader_take_name (T : Txt K mg) : FnOk P w K mg base (CX P w) 7 T.f_Reader_take_name T.d_Reader_take_name ["self", "prefix", "mark"] (sp_Reader_take_name K T.C_Reader T.C_NoOctets) := by
  refine T.F_Reader_take_name.okX sc_Reader_take_name (fun vs H Q E h => ?_) (fun cdv A outer s H vs Q E hr h => ?_)
  · obtain ⟨r, a, os, k, b, m, rfl, _⟩ := h
    rfl
  · obtain ⟨r, a, os, k, b, m, rfl, R, hb, q⟩ := h
    obtain ⟨dx, e⟩ := R.ex
    refine ⟨_, (pss_one (ps_ret (pe_meth (pv 0) T.cl_Reader T.m_Reader_take_string (ok_Reader_take_string T) (hr.mono (by decide)) T.b_Reader_take_string .nil (passes_call (takes_of rfl rfl rfl rfl) (fun _ _ _ _ h => h)) (pa_cons (pv 1) (pa_cons (pv 2) (pa_cons pe_int (pa_cons (pe_glob (v := .int 20) rfl T.g_NAME_MOST ⟨_, rfl⟩) pa_nil))))))), ?_⟩
    exact ⟨_, rfl, r, dx, _, rfl, e, rfl, _, rfl, _, rfl, r, a, os, k, b, m, 1, 20, rfl, R, hb, by decide, by decide, q⟩
theorem ok_Reader_take_value (T : Txt K mg) : FnOk P w K mg base (CX P w) 7 T.f_Reader_take_value T.d_Reader_take_value ["self"] (sp_Reader_take_value K T.C_Reader T.C_NoOctets) := by
  refine T.F_Reader_take_value.okX sc_Reader_take_value (fun vs H Q E h => ?_) (fun cdv A outer s H vs Q E hr h => ?_)
  · obtain ⟨r, a, os, k, rfl, _⟩ := h
    rfl
  · obtain ⟨r, a, os, k, rfl, R, q⟩ := h
    obtain ⟨dx, e⟩ := R.ex
    refine ⟨_, (pss_one (ps_ret (pe_meth (pv 0) T.cl_Reader T.m_Reader_take_string (ok_Reader_take_string T) (hr.mono (by decide)) T.b_Reader_take_string .nil (passes_call (takes_of rfl rfl rfl rfl) (fun _ _ _ _ h => h)) (pa_cons (pe_glob (v := .int 7) rfl T.g_VALUE_PREFIX ⟨_, rfl⟩) (pa_cons pe_int (pa_cons pe_int (pa_cons (pe_glob (v := .int 40) rfl T.g_VALUE_MOST ⟨_, rfl⟩) pa_nil))))))), ?_⟩
    exact ⟨_, rfl, r, dx, _, rfl, e, rfl, r, a, os, k, 7, 0, 0, 40, rfl, R, by decide, by decide, by decide, q⟩

theorem ok_is_stream (T : Txt K mg) : FnOk P w K mg base CX0 2 T.f_is_stream T.d_is_stream ["thing"] (sp_is_stream K) := by
  refine T.F_is_stream.ok sc_is_stream (fun vs H Q E h => ?_) (fun cdv A outer s H vs Q E hr h => ?_)
  · obtain ⟨v, t, rfl, _⟩ := h
    rfl
  · obtain ⟨v, t, rfl, k, q⟩ := h
    refine ⟨_, (pss_one (ps_ret (pe_call (ok_is_between T) (hr.mono (by decide)) rfl T.g_is_between T.F_is_between.kp T.b_is_between .nil pass0 (pa_cons (pv 0) (pa_cons pe_int (pa_cons (pe_glob (v := .int 20) rfl T.g_STREAM_MOST ⟨_, rfl⟩) pa_nil)))))), ?_⟩
    exact ⟨_, rfl, v, t, 0, 20, rfl, k, q⟩

theorem ok_is_name (T : Txt K mg) : FnOk P w K mg base CX0 2 T.f_is_name T.d_is_name ["thing"] (sp_is_name K) := by
  refine T.F_is_name.ok sc_is_name (fun vs H Q E h => ?_) (fun cdv A outer s H vs Q E hr h => ?_)
  · obtain ⟨v, t, rfl, _⟩ := h
    rfl
  · obtain ⟨v, t, rfl, k, hz, q⟩ := h
    refine ⟨_, (pss_one (ps_ret (pe_call (ok_is_text T) (hr.mono (by decide)) rfl T.g_is_text T.F_is_text.kp T.b_is_text .nil pass0 (pa_cons (pv 0) (pa_cons pe_int (pa_cons (pe_glob (v := .int 20) rfl T.g_NAME_MOST ⟨_, rfl⟩) pa_nil)))))), ?_⟩
    exact ⟨_, rfl, v, t, 1, 20, rfl, k, hz, q⟩
theorem ok_value_octets (T : Txt K mg) : FnOk P w K mg base CX0 5 T.f_value_octets T.d_value_octets ["value"] (sp_value_octets) := by
  refine T.F_value_octets.ok sc_value_octets (fun vs H Q E h => ?_) (fun cdv A outer s H vs Q E hr h => ?_)
  · obtain ⟨x, rfl, _⟩ := h
    rfl
  · obtain ⟨x, rfl, hx, q⟩ := h
    refine ⟨_, (pss_one (ps_ret (pe_call (ok_string_octets T) (hr.mono (by decide)) rfl T.g_string_octets T.F_string_octets.kp T.b_string_octets .nil pass0 (pa_cons (pv 0) (pa_cons (pe_glob (v := .int 7) rfl T.g_VALUE_PREFIX ⟨_, rfl⟩) (pa_cons pe_int pa_nil)))))), ?_⟩
    exact ⟨_, rfl, x, 7, 0, rfl, hx, ⟨by decide, by decide, by decide, by decide +kernel⟩, q⟩
theorem ok_are_octets (T : Txt K mg) : FnOk P w K mg base CX0 2 T.f_are_octets T.d_are_octets ["thing"] (sp_are_octets K) := by
  refine T.F_are_octets.ok sc_are_octets (fun vs H Q E h => ?_) (fun cdv A outer s H vs Q E hr h => ?_)
  · obtain ⟨v, rfl, _⟩ := h
    rfl
  · obtain ⟨v, rfl, h⟩ := h
    refine ⟨_, (pss_one (ps_ret (pe_and (pe_callB call_isi rfl T.z_isinstance boot_isinstance (pa_cons (pv 0) (pa_cons (pe_bltn (v := .ty "list") rfl T.z_list boot_list rfl) pa_nil))) (pe_one (pe_callB (cr_all rfl) rfl T.z_all boot_all (pa_cons (pe_lc (own := [("octet", 1)]) (g := (gName 1)) (tt := tYes)  rfl sc_are_octets.nd (pi_list (pv 0)) (blkOk_by (own := [("octet", 1)]) (N := ["thing", "octet"]) (sc := defScope s_are_octets) (by decide +kernel)) (fun _ _ _ _ _ => (pg_name (i := 1) sc_are_octets.nd rfl (Or.inl rfl))) (fun _ _ _ _ _ => pts_nil) (fun _ _ _ _ _ => (pe_call (ok_is_between T) (hr.mono (by decide)) rfl T.g_is_between T.F_is_between.kp T.b_is_between .nil pass0 (pa_cons (pv 1) (pa_cons pe_int (pa_cons pe_int pa_nil)))))) pa_nil)))))), ?_⟩
    rcases h with ⟨a, xs, rfl, hs, hl, hk, q⟩ | ⟨t, k, ht, q⟩
    · have k : Kind K H (.ref a) "list" := .lst hs
      refine ⟨_, rfl, _, _, _, _, _, rfl, .ty _, k.ty, k.kit, _, rfl, ?_⟩
      refine iteT ?_
      refine ⟨_, rfl, a, rfl, ⟨xs, hs⟩, fun D hD => ?_⟩
      refine lc_map (walk_list (xs := xs)) (fun i => V.bl (btw (xs.getD i .non) 0 255)) (by omega) hD (fun _ s1 => s1.seq hs) ?_ ?_
      · rintro i y H' H'' Q' Z hi s1 ⟨rfl, hy⟩ q'
        refine ⟨rfl, yesI ?_⟩
        obtain ⟨ty, hty⟩ := hk y (List.mem_of_getElem? hy)
        refine ⟨_, rfl, y, ty, 0, 255, rfl, hty.keep s1, ?_⟩
        have := q' H'' (Same.refl _)
        rw [getD_of .non hy] at this
        exact this
      · intro H' s1 hD'
        refine ⟨_, xs.map fun x => btw x 0 255, rfl, .inl (.inl ?_), ?_⟩
        · rw [hD']
          have : (List.range xs.length).map (fun i => V.bl (btw (xs.getD i .non) 0 255)) = (xs.map fun x => btw x 0 255).map V.bl := by
            rw [List.map_map]
            exact range_map xs (fun c => V.bl (btw c 0 255)) .non
          rw [this]
        · refine Q_bl (q H' s1) ?_
          show xs.all _ = _
          simp [List.all_map]
    · refine ⟨_, rfl, _, _, _, _, _, rfl, .ty _, k.ty, k.kit, _, rfl, ifF ?_ (q H (Same.refl _))⟩
      cases k <;> first | rfl | (exfalso; revert ht; decide)
theorem ok_check_octets (T : Txt K mg) : FnOk P w K mg base (CX P w) 3 T.f_check_octets T.d_check_octets ["octets"] (sp_check_octets K T.C_NoOctetList) := by
  refine T.F_check_octets.okX sc_check_octets (fun vs H Q E h => ?_) (fun cdv A outer s H vs Q E hr h => ?_)
  · obtain ⟨v, rfl, _⟩ := h
    rfl
  · obtain ⟨v, rfl, h⟩ := h
    refine ⟨_, (pss_one (ps_if (pt_not (pt_val (pe_call (ok_are_octets T) (hr.mono (by decide)) rfl T.g_are_octets T.F_are_octets.kp T.b_are_octets .nil pass0 (pa_cons (pv 0) pa_nil)))) (pss_one (ps_raise rfl (takes_of rfl rfl rfl rfl) (pmk_own PySem.F.excBase_ValueError T.P_NoOctetList.x_ T.P_NoOctetList.g T.P_NoOctetList.k_ (raises_own T.P_NoOctetList.b_ T.P_NoOctetList.t_) rfl))) pss_nil)), ?_⟩
    rcases h with ⟨a, xs, rfl, hs, hl, hk, q⟩ | ⟨t, k, ht, q⟩
    · refine ⟨_, rfl, _, rfl, .inl ⟨a, xs, rfl, hs, hl, hk, fun H' s1 => ?_⟩⟩
      have q1 := q H' s1
      cases ho : octV xs with
      | true =>
        rw [ho] at q1
        exact ⟨_, rfl, ifF rfl q1⟩
      | false =>
        rw [ho] at q1
        exact ⟨_, rfl, iteT q1⟩
    · refine ⟨_, rfl, _, rfl, .inr ⟨t, k, ht, fun H' s1 => ⟨_, rfl, iteT (q H' s1)⟩⟩⟩

theorem ok_is_instruction (T : Txt K mg) : FnOk P w K mg base CX0 3 T.f_is_instruction T.d_is_instruction ["thing"] (sp_is_ins K) := by
  refine T.F_is_instruction.ok sc_is_instruction (fun vs H Q E h => ?_) (fun cdv A outer s H vs Q E hr h => ?_)
  · obtain ⟨v, i, rfl, _⟩ := h
    rfl
  · obtain ⟨v, i, rfl, ⟨a, rfl, hs⟩, ok, q⟩ := h
    refine ⟨_, (pss_cons (ps_if (PW.pt (pw_or (pt_not (pt_val (pe_callB call_isi rfl T.z_isinstance boot_isinstance (pa_cons (pv 0) (pa_cons (pe_bltn (v := .ty "tuple") rfl T.z_tuple boot_tuple rfl) pa_nil))))) (pw_or1 (pt_cmpR op_notIn_seq (pe_callB call_len rfl T.z_len boot_len (pa_cons (pv 0) pa_nil)) (pe_tup (pa_cons pe_int (pa_cons pe_int pa_nil))) rfl)))) (pss_one (ps_ret pe_bl)) pss_nil)
      (pss_cons (ps_if (pt_cmpR op_eq (pe_callB call_len rfl T.z_len boot_len (pa_cons (pv 0) pa_nil)) pe_int (nomark _)) (pss_one (ps_ret (pe_and (pe_cmpR op_in_seq (pe_ix ix_tup (pv 0) pe_int (fun _ _ => rfl)) (pe_tup (pa_cons pe_str (pa_cons pe_str pa_nil))) rfl) (pe_one (pe_call (ok_is_number T) (hr.mono (by decide)) rfl T.g_is_number T.F_is_number.kp T.b_is_number .nil pass0 (pa_cons (pe_ix ix_tup (pv 0) pe_int (fun _ _ => rfl)) pa_nil)))))) pss_nil)
      (pss_cons (ps_asg (pv 0) (pg_tup rfl (pgs_cons (pg_name (i := 1) sc_is_instruction.nd rfl (Or.inl rfl)) (pgs_cons (pg_name (i := 2) sc_is_instruction.nd rfl (Or.inl rfl)) (pgs_cons (pg_name (i := 3) sc_is_instruction.nd rfl (Or.inl rfl)) pgs_nil)))))
      (pss_cons (ps_if (pt_cmpR op_eq (pv 1) pe_str (nomark _)) (pss_one (ps_ret (pe_and (pe_call (ok_is_name T) (hr.mono (by decide)) rfl T.g_is_name T.F_is_name.kp T.b_is_name .nil pass0 (pa_cons (pv 2) pa_nil)) (pe_one (pe_call (ok_is_value T) (hr.mono (by decide)) rfl T.g_is_value T.F_is_value.kp T.b_is_value .nil pass0 (pa_cons (pv 3) pa_nil)))))) pss_nil)
      (pss_one (ps_ret (pe_and (pe_cmpR op_in_seq (pv 1) (pe_tup (pa_cons pe_str (pa_cons pe_str pa_nil))) rfl) (pe_and (pe_call (ok_is_number T) (hr.mono (by decide)) rfl T.g_is_number T.F_is_number.kp T.b_is_number .nil pass0 (pa_cons (pv 2) pa_nil)) (pe_one (pe_call (ok_is_value T) (hr.mono (by decide)) rfl T.g_is_value T.F_is_value.kp T.b_is_value .nil pass0 (pa_cons (pv 3) pa_nil))))))))))), ?_⟩
    have k : Kind K H (.ref a) "tuple" := .tup hs
    refine ⟨_, rfl, _, _, _, _, _, rfl, .ty _, k.ty, k.kit, _, rfl, ifF rfl ?_⟩
    refine ⟨_, rfl, _, _, rfl, .inr ⟨_, hs, rfl⟩, by show 2 ≤ sizeLine; decide, fun tp htp => ?_⟩
    have s1 : Same H (upd H tp (.tup [.int 2, .int 3])) := Same.new htp
    have hs1 := s1.tup hs
    have two : ∀ (n : Nat), n ≤ 9999 → btw (.int (n : Nat)) 0 9999 = true := fun n h => btw_t (by omega) (by omega)
    cases i with
    | again n =>
      refine ⟨tp, _, rfl, .inr (.inl (.inl upd_same)), rfl, rfl, _, rfl, ifF rfl ?_⟩
      refine ⟨_, rfl, _, _, rfl, .inr ⟨_, hs1, rfl⟩, rfl, _, rfl, iteT ?_⟩
      refine ⟨_, rfl, _, _, _, _, rfl, rfl, hs1, rfl, by show 2 ≤ sizeLine; decide, fun tq htq => ⟨tq, _, rfl, .inr (.inl (.inl upd_same)), rfl, rfl, _, rfl, ifT (by decide) ?_⟩⟩
      have s2 := s1.trans (Same.new (o := .tup [.str "again", .str "limit"]) htq)
      exact ⟨_, rfl, _, _, _, _, rfl, rfl, s2.tup hs, rfl, .int n, "int", rfl, .int _, Q_bl (q _ s2) (two n ok).symm⟩
    | limit n =>
      refine ⟨tp, _, rfl, .inr (.inl (.inl upd_same)), rfl, rfl, _, rfl, ifF rfl ?_⟩
      refine ⟨_, rfl, _, _, rfl, .inr ⟨_, hs1, rfl⟩, rfl, _, rfl, iteT ?_⟩
      refine ⟨_, rfl, _, _, _, _, rfl, rfl, hs1, rfl, by show 2 ≤ sizeLine; decide, fun tq htq => ⟨tq, _, rfl, .inr (.inl (.inl upd_same)), rfl, rfl, _, rfl, ifT (by decide) ?_⟩⟩
      have s2 := s1.trans (Same.new (o := .tup [.str "again", .str "limit"]) htq)
      exact ⟨_, rfl, _, _, _, _, rfl, rfl, s2.tup hs, rfl, .int n, "int", rfl, .int _, Q_bl (q _ s2) (two n ok).symm⟩
    | fixed n x =>
      refine ⟨tp, _, rfl, .inr (.inl (.inl upd_same)), rfl, rfl, _, rfl, ifF rfl ?_⟩
      refine ⟨_, rfl, _, _, rfl, .inr ⟨_, hs1, rfl⟩, rfl, _, rfl, ifF (by show decide (V.int 3 = V.int 2) = false; decide) ?_⟩
      refine ⟨_, rfl, a, _, rfl, hs1, rfl, ⟨_, _, rfl, ⟨_, _, rfl, ⟨_, _, rfl, rfl, ?_⟩⟩⟩⟩
      refine ⟨_, rfl, rfl, _, rfl, ifF (by decide) ?_⟩
      refine ⟨_, rfl, by show 2 ≤ sizeLine; decide, fun tq htq => ⟨tq, _, rfl, .inr (.inl (.inl upd_same)), rfl, rfl, _, rfl, ifT (by decide) ?_⟩⟩
      have s2 := s1.trans (Same.new (o := .tup [.str "fixed", .str "entry"]) htq)
      refine ⟨_, rfl, .int n, "int", rfl, .int _, _, rfl, ifT (two n ok.1) ?_⟩
      refine ⟨_, rfl, .str x, "str", rfl, .str _, fun y e => ?_, fun H3 s3 => Q_bl (q _ (s2.trans s3)) ok.2.symm⟩
      cases e
      have := txt_len ok.2
      omega
    | entry n x =>
      refine ⟨tp, _, rfl, .inr (.inl (.inl upd_same)), rfl, rfl, _, rfl, ifF rfl ?_⟩
      refine ⟨_, rfl, _, _, rfl, .inr ⟨_, hs1, rfl⟩, rfl, _, rfl, ifF (by show decide (V.int 3 = V.int 2) = false; decide) ?_⟩
      refine ⟨_, rfl, a, _, rfl, hs1, rfl, ⟨_, _, rfl, ⟨_, _, rfl, ⟨_, _, rfl, rfl, ?_⟩⟩⟩⟩
      refine ⟨_, rfl, rfl, _, rfl, ifF (by decide) ?_⟩
      refine ⟨_, rfl, by show 2 ≤ sizeLine; decide, fun tq htq => ⟨tq, _, rfl, .inr (.inl (.inl upd_same)), rfl, rfl, _, rfl, ifT (by decide) ?_⟩⟩
      have s2 := s1.trans (Same.new (o := .tup [.str "fixed", .str "entry"]) htq)
      refine ⟨_, rfl, .int n, "int", rfl, .int _, _, rfl, ifT (two n ok.1) ?_⟩
      refine ⟨_, rfl, .str x, "str", rfl, .str _, fun y e => ?_, fun H3 s3 => Q_bl (q _ (s2.trans s3)) ok.2.symm⟩
      cases e
      have := txt_len ok.2
      omega
    | new y x =>
      refine ⟨tp, _, rfl, .inr (.inl (.inl upd_same)), rfl, rfl, _, rfl, ifF rfl ?_⟩
      refine ⟨_, rfl, _, _, rfl, .inr ⟨_, hs1, rfl⟩, rfl, _, rfl, ifF (by show decide (V.int 3 = V.int 2) = false; decide) ?_⟩
      refine ⟨_, rfl, a, _, rfl, hs1, rfl, ⟨_, _, rfl, ⟨_, _, rfl, ⟨_, _, rfl, rfl, ?_⟩⟩⟩⟩
      refine ⟨_, rfl, rfl, _, rfl, ifT (by decide) ?_⟩
      refine ⟨_, rfl, .str y, "str", rfl, .str _, fun z e => ?_, fun H3 s3 => ⟨_, rfl, ifT ok.1 ?_⟩⟩
      · cases e
        have := txt_len20 ok.1
        omega
      refine ⟨_, rfl, .str x, "str", rfl, .str _, fun z e => ?_, fun H4 s4 => Q_bl (q _ ((s1.trans s3).trans s4)) ok.2.symm⟩
      cases e
      have := txt_len ok.2
      omega
theorem ok_source_octets (T : Txt K mg) : FnOk P w K mg base CX0 5 T.f_source_octets T.d_source_octets ["kind", "source"] sp_source_octets := by
  refine T.F_source_octets.ok sc_source_octets (fun vs H Q E h => ?_) (fun cdv A outer s H vs Q E hr h => ?_)
  · obtain ⟨c, v, os, rfl, _⟩ := h
    rfl
  · obtain ⟨c, v, os, rfl, h, q⟩ := h
    refine ⟨_, (pss_cons (ps_if (pt_cmpR op_eq (pv 0) pe_str (nomark _)) (pss_one (ps_ret (pe_call (ok_number_octets T) (hr.mono (by decide)) rfl T.g_number_octets T.F_number_octets.kp T.b_number_octets .nil pass0 (pa_cons (pv 1) (pa_cons pe_int (pa_cons pe_int pa_nil)))))) pss_nil)
      (pss_cons (ps_if (pt_cmpR op_eq (pv 0) pe_str (nomark _)) (pss_one (ps_ret (pe_call (ok_number_octets T) (hr.mono (by decide)) rfl T.g_number_octets T.F_number_octets.kp T.b_number_octets .nil pass0 (pa_cons (pv 1) (pa_cons pe_int (pa_cons pe_int pa_nil)))))) pss_nil)
      (pss_one (ps_ret (pe_call (ok_string_octets T) (hr.mono (by decide)) rfl T.g_string_octets T.F_string_octets.kp T.b_string_octets .nil pass0 (pa_cons (pv 1) (pa_cons pe_int (pa_cons pe_int pa_nil)))))))), ?_⟩
    rcases h with ⟨n, rfl, rfl, hn, rfl⟩ | ⟨n, rfl, rfl, hn, rfl⟩ | ⟨y, rfl, rfl, hy, rfl⟩
    · exact ⟨_, rfl, rfl, _, rfl, iteT ⟨_, rfl, n, 6, 192, rfl, hn, ⟨by decide, by decide, by decide, by decide +kernel⟩, q⟩⟩
    · refine ⟨_, rfl, rfl, _, rfl, ifF (by decide) ⟨_, rfl, rfl, _, rfl, ifT (by decide) ?_⟩⟩
      exact ⟨_, rfl, n, 6, 128, rfl, hn, ⟨by decide, by decide, by decide, by decide +kernel⟩, q⟩
    · refine ⟨_, rfl, rfl, _, rfl, ifF (by decide) ⟨_, rfl, rfl, _, rfl, ifF (by decide) ?_⟩⟩
      exact ⟨_, rfl, y, 5, 64, rfl, txt_20 hy, ⟨by decide, by decide, by decide, by decide +kernel⟩, q⟩

theorem ok_write_instruction (T : Txt K mg) : FnOk P w K mg base CX0 6 T.f_write_instruction T.d_write_instruction ["instruction"] (sp_write_ins K) := by
  refine T.F_write_instruction.ok sc_write_instruction (fun vs H Q E h => ?_) (fun cdv A outer s H vs Q E hr h => ?_)
  · obtain ⟨v, i, rfl, _⟩ := h
    rfl
  · obtain ⟨v, i, rfl, ⟨a, rfl, hs⟩, ok, q⟩ := h
    refine ⟨_, (pss_cons (ps_if (pt_not (pt_val (pe_call (ok_is_instruction T) (hr.mono (by decide)) rfl T.g_is_instruction T.F_is_instruction.kp T.b_is_instruction .nil pass0 (pa_cons (pv 0) pa_nil)))) (pss_one ps_never) pss_nil)
      (pss_cons (ps_set (i := 1) sc_write_instruction.nd rfl (Or.inl rfl) (pe_ix ix_tup (pv 0) pe_int (fun _ _ => rfl)))
      (pss_cons (ps_if (pt_cmpR op_eq (pv 1) pe_str (nomark _)) (pss_one (ps_ret (pe_call (ok_number_octets T) (hr.mono (by decide)) rfl T.g_number_octets T.F_number_octets.kp T.b_number_octets .nil pass0 (pa_cons (pe_ix ix_tup (pv 0) pe_int (fun _ _ => rfl)) (pa_cons pe_int (pa_cons pe_int pa_nil)))))) pss_nil)
      (pss_cons (ps_if (pt_cmpR op_eq (pv 1) pe_str (nomark _)) (pss_one (ps_ret (pe_call (ok_number_octets T) (hr.mono (by decide)) rfl T.g_number_octets T.F_number_octets.kp T.b_number_octets .nil pass0 (pa_cons (pe_ix ix_tup (pv 0) pe_int (fun _ _ => rfl)) (pa_cons pe_int (pa_cons pe_int pa_nil)))))) pss_nil)
      (pss_one (ps_ret (pe_op op_cat (pe_call (ok_source_octets T) (hr.mono (by decide)) rfl T.g_source_octets T.F_source_octets.kp T.b_source_octets .nil pass0 (pa_cons (pv 1) (pa_cons (pe_ix ix_tup (pv 0) pe_int (fun _ _ => rfl)) pa_nil))) (pe_call (ok_value_octets T) (hr.mono (by decide)) rfl T.g_value_octets T.F_value_octets.kp T.b_value_octets .nil pass0 (pa_cons (pe_ix ix_tup (pv 0) pe_int (fun _ _ => rfl)) pa_nil))))))))), ?_⟩
    refine ⟨_, rfl, _, i, rfl, ⟨a, rfl, hs⟩, ok, fun H1 s1 => ⟨_, rfl, ifF rfl ?_⟩⟩
    have hs1 := s1.tup hs
    cases i with
    | again n =>
      refine ⟨_, rfl, _, _, _, _, rfl, rfl, hs1, rfl, ?_⟩
      refine ⟨_, rfl, rfl, _, rfl, ifT (by decide) ?_⟩
      exact ⟨_, rfl, _, _, _, _, rfl, rfl, hs1, rfl, n, 5, 0, rfl, ok, mark0 (by decide) (by decide), q.pre s1⟩
    | limit n =>
      refine ⟨_, rfl, _, _, _, _, rfl, rfl, hs1, rfl, ?_⟩
      refine ⟨_, rfl, rfl, _, rfl, ifF (by decide) ⟨_, rfl, rfl, _, rfl, ifT (by decide) ?_⟩⟩
      exact ⟨_, rfl, _, _, _, _, rfl, rfl, hs1, rfl, n, 5, 32, rfl, ok, ⟨by decide, by decide, by decide, by decide +kernel⟩, q.pre s1⟩
    | fixed n x =>
      refine ⟨_, rfl, _, _, _, _, rfl, rfl, hs1, rfl, ?_⟩
      refine ⟨_, rfl, rfl, _, rfl, ifF (by decide) ⟨_, rfl, rfl, _, rfl, ifF (by decide) ?_⟩⟩
      refine ⟨_, rfl, _, rfl, _, _, _, _, rfl, rfl, hs1, rfl, "fixed", .int n, _, rfl, .inl ⟨n, rfl, rfl, ok.1, rfl⟩, fun p H2 hp s2 g2 => ?_⟩
      refine ⟨_, rfl, _, _, _, _, rfl, rfl, s2.tup hs1, rfl, x, rfl, ok.2, fun p3 H3 hp3 s3 g3 => ?_⟩
      have l1 := numOct_len n 6 192
      have l2 := strOct_len (b := 7) (m := 0) (txt_len ok.2)
      have l3 := ok.1
      exact cat_go q ((s1.trans s2).trans s3) (s3 _ _ g2) g3 (by omega)
    | entry n x =>
      refine ⟨_, rfl, _, _, _, _, rfl, rfl, hs1, rfl, ?_⟩
      refine ⟨_, rfl, rfl, _, rfl, ifF (by decide) ⟨_, rfl, rfl, _, rfl, ifF (by decide) ?_⟩⟩
      refine ⟨_, rfl, _, rfl, _, _, _, _, rfl, rfl, hs1, rfl, "entry", .int n, _, rfl, .inr (.inl ⟨n, rfl, rfl, ok.1, rfl⟩), fun p H2 hp s2 g2 => ?_⟩
      refine ⟨_, rfl, _, _, _, _, rfl, rfl, s2.tup hs1, rfl, x, rfl, ok.2, fun p3 H3 hp3 s3 g3 => ?_⟩
      have l1 := numOct_len n 6 128
      have l2 := strOct_len (b := 7) (m := 0) (txt_len ok.2)
      have l3 := ok.1
      exact cat_go q ((s1.trans s2).trans s3) (s3 _ _ g2) g3 (by omega)
    | new y x =>
      refine ⟨_, rfl, _, _, _, _, rfl, rfl, hs1, rfl, ?_⟩
      refine ⟨_, rfl, rfl, _, rfl, ifF (by decide) ⟨_, rfl, rfl, _, rfl, ifF (by decide) ?_⟩⟩
      refine ⟨_, rfl, _, rfl, _, _, _, _, rfl, rfl, hs1, rfl, "new", .str y, _, rfl, .inr (.inr ⟨y, rfl, rfl, ok.1, rfl⟩), fun p H2 hp s2 g2 => ?_⟩
      refine ⟨_, rfl, _, _, _, _, rfl, rfl, s2.tup hs1, rfl, x, rfl, ok.2, fun p3 H3 hp3 s3 g3 => ?_⟩
      have l1 := strOct_len (b := 5) (m := 64) (txt_len (txt_20 ok.1))
      have l2 := strOct_len (b := 7) (m := 0) (txt_len ok.2)
      exact cat_go q ((s1.trans s2).trans s3) (s3 _ _ g2) g3 (by omega)
theorem ok_is_answer (T : Txt K mg) : FnOk P w K mg base CX0 3 T.f_is_answer T.d_is_answer ["thing"] (sp_is_ans K) := by
  refine T.F_is_answer.ok sc_is_answer (fun vs H Q E h => ?_) (fun cdv A outer s H vs Q E hr h => ?_)
  · obtain ⟨v, i, rfl, _⟩ := h
    rfl
  · obtain ⟨v, i, rfl, ⟨a, rfl, hs⟩, ok, q⟩ := h
    refine ⟨_, (pss_cons (ps_if (PW.pt (pw_or (pt_not (pt_val (pe_callB call_isi rfl T.z_isinstance boot_isinstance (pa_cons (pv 0) (pa_cons (pe_bltn (v := .ty "tuple") rfl T.z_tuple boot_tuple rfl) pa_nil))))) (pw_or1 (pt_cmpR op_ne (pe_callB call_len rfl T.z_len boot_len (pa_cons (pv 0) pa_nil)) pe_int (nomark _))))) (pss_one (ps_ret pe_bl)) pss_nil)
      (pss_cons (ps_asg (pv 0) (pg_tup rfl (pgs_cons (pg_name (i := 1) sc_is_answer.nd rfl (Or.inl rfl)) (pgs_cons (pg_name (i := 2) sc_is_answer.nd rfl (Or.inl rfl)) pgs_nil))))
      (pss_cons (ps_if (pt_cmpR op_eq (pv 1) pe_str (nomark _)) (pss_one (ps_ret (pe_call (ok_is_between T) (hr.mono (by decide)) rfl T.g_is_between T.F_is_between.kp T.b_is_between .nil pass0 (pa_cons (pv 2) (pa_cons pe_int (pa_cons (pe_glob (v := .int 9999) rfl T.g_NUMBER_MOST ⟨_, rfl⟩) pa_nil)))))) pss_nil)
      (pss_one (ps_ret (pe_and (pe_cmpR op_in_seq (pv 1) (pe_tup (pa_cons pe_str (pa_cons pe_str pa_nil))) rfl) (pe_one (pe_call (ok_is_stream T) (hr.mono (by decide)) rfl T.g_is_stream T.F_is_stream.kp T.b_is_stream .nil pass0 (pa_cons (pv 2) pa_nil))))))))), ?_⟩
    have k : Kind K H (.ref a) "tuple" := .tup hs
    refine ⟨_, rfl, _, _, _, _, _, rfl, .ty _, k.ty, k.kit, _, rfl, ifF rfl ?_⟩
    refine ⟨_, rfl, _, _, rfl, .inr ⟨_, hs, rfl⟩, rfl, _, rfl, ?_⟩
    have hl : i.vs.length = 2 := by cases i <;> rfl
    rw [hl]
    refine ifF (by decide) ?_
    cases i with
    | received n =>
      refine ⟨_, rfl, a, _, rfl, hs, rfl, ⟨_, _, rfl, ⟨_, _, rfl, rfl, ?_⟩⟩⟩
      refine ⟨_, rfl, rfl, _, rfl, ifT (by decide) ?_⟩
      exact ⟨_, rfl, .int n, "int", 1, 9999, rfl, .int _, Q_bl (q _ (Same.refl _)) (btw_t (by have := ok.1; omega) (by have := ok.2; omega)).symm⟩
    | done n =>
      refine ⟨_, rfl, a, _, rfl, hs, rfl, ⟨_, _, rfl, ⟨_, _, rfl, rfl, ?_⟩⟩⟩
      refine ⟨_, rfl, rfl, _, rfl, ifF (by decide) ?_⟩
      refine ⟨_, rfl, by show 2 ≤ sizeLine; decide, fun tq htq => ⟨tq, _, rfl, .inr (.inl (.inl upd_same)), rfl, rfl, _, rfl, ifT (by decide) ?_⟩⟩
      exact ⟨_, rfl, .int n, "int", rfl, .int _, Q_bl (q _ (Same.new htq)) (btw_t (by omega) (by have h : n ≤ 20 := ok; omega)).symm⟩
    | cancelled n =>
      refine ⟨_, rfl, a, _, rfl, hs, rfl, ⟨_, _, rfl, ⟨_, _, rfl, rfl, ?_⟩⟩⟩
      refine ⟨_, rfl, rfl, _, rfl, ifF (by decide) ?_⟩
      refine ⟨_, rfl, by show 2 ≤ sizeLine; decide, fun tq htq => ⟨tq, _, rfl, .inr (.inl (.inl upd_same)), rfl, rfl, _, rfl, ifT (by decide) ?_⟩⟩
      exact ⟨_, rfl, .int n, "int", rfl, .int _, Q_bl (q _ (Same.new htq)) (btw_t (by omega) (by have h : n ≤ 20 := ok; omega)).symm⟩
theorem ok_write_answer (T : Txt K mg) : FnOk P w K mg base CX0 4 T.f_write_answer T.d_write_answer ["answer"] (sp_write_ans K) := by
  refine T.F_write_answer.ok sc_write_answer (fun vs H Q E h => ?_) (fun cdv A outer s H vs Q E hr h => ?_)
  · obtain ⟨v, i, rfl, _⟩ := h
    rfl
  · obtain ⟨v, i, rfl, ⟨a, rfl, hs⟩, ok, q⟩ := h
    refine ⟨_, (pss_cons (ps_if (pt_not (pt_val (pe_call (ok_is_answer T) (hr.mono (by decide)) rfl T.g_is_answer T.F_is_answer.kp T.b_is_answer .nil pass0 (pa_cons (pv 0) pa_nil)))) (pss_one ps_never) pss_nil)
      (pss_cons (ps_asg (pv 0) (pg_tup rfl (pgs_cons (pg_name (i := 1) sc_write_answer.nd rfl (Or.inl rfl)) (pgs_cons (pg_name (i := 2) sc_write_answer.nd rfl (Or.inl rfl)) pgs_nil))))
      (pss_cons (ps_if (pt_cmpR op_eq (pv 1) pe_str (nomark _)) (pss_one (ps_ret (pe_call (ok_number_octets T) (hr.mono (by decide)) rfl T.g_number_octets T.F_number_octets.kp T.b_number_octets .nil pass0 (pa_cons (pv 2) (pa_cons pe_int (pa_cons pe_int pa_nil)))))) pss_nil)
      (pss_cons (ps_if (pt_cmpR op_eq (pv 1) pe_str (nomark _)) (pss_one (ps_ret (pe_call (ok_number_octets T) (hr.mono (by decide)) rfl T.g_number_octets T.F_number_octets.kp T.b_number_octets .nil pass0 (pa_cons (pv 2) (pa_cons pe_int (pa_cons pe_int pa_nil)))))) pss_nil)
      (pss_one (ps_ret (pe_call (ok_number_octets T) (hr.mono (by decide)) rfl T.g_number_octets T.F_number_octets.kp T.b_number_octets .nil pass0 (pa_cons (pv 2) (pa_cons pe_int (pa_cons pe_int pa_nil)))))))))), ?_⟩
    refine ⟨_, rfl, _, i, rfl, ⟨a, rfl, hs⟩, ok, fun H1 s1 => ⟨_, rfl, ifF rfl ?_⟩⟩
    have hs1 := s1.tup hs
    cases i with
    | done n =>
      have h : n ≤ 20 := ok
      refine ⟨_, rfl, a, _, rfl, hs1, rfl, ⟨_, _, rfl, ⟨_, _, rfl, rfl, ?_⟩⟩⟩
      refine ⟨_, rfl, rfl, _, rfl, ifT (by decide) ?_⟩
      exact ⟨_, rfl, n, 7, 128, rfl, by omega, ⟨by decide, by decide, by decide, by decide +kernel⟩, q.pre s1⟩
    | cancelled n =>
      have h : n ≤ 20 := ok
      refine ⟨_, rfl, a, _, rfl, hs1, rfl, ⟨_, _, rfl, ⟨_, _, rfl, rfl, ?_⟩⟩⟩
      refine ⟨_, rfl, rfl, _, rfl, ifF (by decide) ⟨_, rfl, rfl, _, rfl, ifT (by decide) ?_⟩⟩
      exact ⟨_, rfl, n, 6, 64, rfl, by omega, ⟨by decide, by decide, by decide, by decide +kernel⟩, q.pre s1⟩
    | received n =>
      have h := ok.2
      refine ⟨_, rfl, a, _, rfl, hs1, rfl, ⟨_, _, rfl, ⟨_, _, rfl, rfl, ?_⟩⟩⟩
      refine ⟨_, rfl, rfl, _, rfl, ifF (by decide) ⟨_, rfl, rfl, _, rfl, ifF (by decide) ?_⟩⟩
      exact ⟨_, rfl, n, 6, 0, rfl, h, mark0 (by decide) (by decide), q.pre s1⟩
theorem ok_take_source (T : Txt K mg) : FnOk P w K mg base (CX P w) 8 T.f_take_source T.d_take_source ["reader"] (sp_take K T.C_Reader T.C_NoOctets takeSrc (rSrc K)) := by
  refine T.F_take_source.okX sc_take_source (fun vs H Q E h => ?_) (fun cdv A outer s H vs Q E hr h => ?_)
  · obtain ⟨r, a, os, k, rfl, _⟩ := h
    rfl
  · obtain ⟨r, a, os, k, rfl, R, q⟩ := h
    obtain ⟨dx, e⟩ := R.ex
    refine ⟨_, (pss_cons (ps_set (i := 1) sc_take_source.nd rfl (Or.inl rfl) (pe_meth0 (pv 0) T.cl_Reader T.m_Reader_look (ok_Reader_look T) (hr.mono (by decide)) T.b_Reader_look .nil (passes_call (takes_of rfl rfl rfl rfl) (fun _ _ _ _ h => h))))
      (pss_cons (ps_if (pt_cmpR op_ge (pv 1) pe_int (nomark _)) (pss_one (ps_ret (pe_tup (pa_cons pe_str (pa_cons (pe_meth (pv 0) T.cl_Reader T.m_Reader_take_number (ok_Reader_take_number T) (hr.mono (by decide)) T.b_Reader_take_number .nil (passes_call (takes_of rfl rfl rfl rfl) (fun _ _ _ _ h => h)) (pa_cons pe_int (pa_cons pe_int (pa_cons pe_int (pa_cons (pe_glob (v := .int 9999) rfl T.g_NUMBER_MOST ⟨_, rfl⟩) pa_nil))))) pa_nil))))) pss_nil)
      (pss_cons (ps_if (pt_cmpR op_ge (pv 1) pe_int (nomark _)) (pss_one (ps_ret (pe_tup (pa_cons pe_str (pa_cons (pe_meth (pv 0) T.cl_Reader T.m_Reader_take_number (ok_Reader_take_number T) (hr.mono (by decide)) T.b_Reader_take_number .nil (passes_call (takes_of rfl rfl rfl rfl) (fun _ _ _ _ h => h)) (pa_cons pe_int (pa_cons pe_int (pa_cons pe_int (pa_cons (pe_glob (v := .int 9999) rfl T.g_NUMBER_MOST ⟨_, rfl⟩) pa_nil))))) pa_nil))))) pss_nil)
      (pss_one (ps_ret (pe_tup (pa_cons pe_str (pa_cons (pe_meth (pv 0) T.cl_Reader T.m_Reader_take_name (ok_Reader_take_name T) (hr.mono (by decide)) T.b_Reader_take_name .nil (passes_call (takes_of rfl rfl rfl rfl) (fun _ _ _ _ h => h)) (pa_cons pe_int (pa_cons pe_int pa_nil))) pa_nil)))))))), ?_⟩
    have hos : ∀ o ∈ os, 0 ≤ o := fun o ho => (R.lt o ho).1
    refine ⟨_, rfl, r, dx, _, rfl, e, rfl, r, a, os, k, rfl, R, fun hn => ?_, fun o ho => ?_⟩
    · rw [takeSrc, hn] at q
      exact q
    rw [takeSrc, ho] at q
    dsimp only at q
    refine ⟨_, rfl, _, _, rfl, rfl, _, rfl, ifb (fun h => ?_) (fun h => ?_)⟩
    · have h' : 192 ≤ o := of_decide_eq_true h
      rw [if_pos h'] at q
      refine ⟨_, rfl, r, dx, _, rfl, e, rfl, r, a, os, k, 6, 192, 0, 9999, rfl, R, by decide, by decide, ?_⟩
      refine res_map q (fun _ => rfl) fun z v H1 hz b1 R1 hv go => ?_
      have hb := takeNum_bound os 6 192 0 9999 k hos z.1 z.2 hz
      cases hv
      refine ⟨by show 2 ≤ sizeLine; decide, fun p hp => go _ _ (Same.new hp) ⟨p, rfl, .inl (.inl ?_)⟩⟩
      rw [upd_same]
      show some (HO.tup [.str "fixed", .int z.1]) = some (HO.tup [.str "fixed", .int (z.1.toNat : Nat)])
      rw [Int.toNat_of_nonneg hb.1]
    · have h' : ¬ 192 ≤ o := of_decide_eq_false h
      rw [if_neg h'] at q
      refine ⟨_, rfl, _, _, rfl, rfl, _, rfl, ifb (fun h => ?_) (fun h => ?_)⟩
      · have h2' : 128 ≤ o := of_decide_eq_true h
        rw [if_pos h2'] at q
        refine ⟨_, rfl, r, dx, _, rfl, e, rfl, r, a, os, k, 6, 128, 0, 9999, rfl, R, by decide, by decide, ?_⟩
        refine res_map q (fun _ => rfl) fun z v H1 hz b1 R1 hv go => ?_
        have hb := takeNum_bound os 6 128 0 9999 k hos z.1 z.2 hz
        cases hv
        refine ⟨by show 2 ≤ sizeLine; decide, fun p hp => go _ _ (Same.new hp) ⟨p, rfl, .inl (.inl ?_)⟩⟩
        rw [upd_same]
        show some (HO.tup [.str "entry", .int z.1]) = some (HO.tup [.str "entry", .int (z.1.toNat : Nat)])
        rw [Int.toNat_of_nonneg hb.1]
      · have h2' : ¬ 128 ≤ o := of_decide_eq_false h
        rw [if_neg h2'] at q
        refine ⟨_, rfl, r, dx, _, rfl, e, rfl, r, a, os, k, 5, 64, rfl, R, by decide, ?_⟩
        refine res_map q (fun _ => rfl) fun z v H1 hz b1 R1 hv go => ?_
        cases hv
        refine ⟨by show 2 ≤ sizeLine; decide, fun p hp => go _ _ (Same.new hp) ⟨p, rfl, .inl (.inl upd_same)⟩⟩
theorem ok_take_instruction (T : Txt K mg) : FnOk P w K mg base (CX P w) 9 T.f_take_instruction T.d_take_instruction ["reader"] (sp_take K T.C_Reader T.C_NoOctets takeIns (rIns K)) := by
  refine T.F_take_instruction.okX sc_take_instruction (fun vs H Q E h => ?_) (fun cdv A outer s H vs Q E hr h => ?_)
  · obtain ⟨r, a, os, k, rfl, _⟩ := h
    rfl
  · obtain ⟨r, a, os, k, rfl, R, q⟩ := h
    obtain ⟨dx, e⟩ := R.ex
    refine ⟨_, (pss_cons (ps_set (i := 1) sc_take_instruction.nd rfl (Or.inl rfl) (pe_meth0 (pv 0) T.cl_Reader T.m_Reader_look (ok_Reader_look T) (hr.mono (by decide)) T.b_Reader_look .nil (passes_call (takes_of rfl rfl rfl rfl) (fun _ _ _ _ h => h))))
      (pss_cons (ps_if (pt_cmpR op_lt (pv 1) pe_int (nomark _)) (pss_one (ps_ret (pe_tup (pa_cons pe_str (pa_cons (pe_meth (pv 0) T.cl_Reader T.m_Reader_take_number (ok_Reader_take_number T) (hr.mono (by decide)) T.b_Reader_take_number .nil (passes_call (takes_of rfl rfl rfl rfl) (fun _ _ _ _ h => h)) (pa_cons pe_int (pa_cons pe_int (pa_cons pe_int (pa_cons (pe_glob (v := .int 9999) rfl T.g_NUMBER_MOST ⟨_, rfl⟩) pa_nil))))) pa_nil))))) pss_nil)
      (pss_cons (ps_if (pt_cmpR op_lt (pv 1) pe_int (nomark _)) (pss_one (ps_ret (pe_tup (pa_cons pe_str (pa_cons (pe_meth (pv 0) T.cl_Reader T.m_Reader_take_number (ok_Reader_take_number T) (hr.mono (by decide)) T.b_Reader_take_number .nil (passes_call (takes_of rfl rfl rfl rfl) (fun _ _ _ _ h => h)) (pa_cons pe_int (pa_cons pe_int (pa_cons pe_int (pa_cons (pe_glob (v := .int 9999) rfl T.g_NUMBER_MOST ⟨_, rfl⟩) pa_nil))))) pa_nil))))) pss_nil)
      (pss_cons (ps_asg (pe_call (ok_take_source T) (hr.mono (by decide)) rfl T.g_take_source T.F_take_source.kp T.b_take_source .nil (passes_call (takes_of rfl rfl rfl rfl) (fun _ _ _ _ h => h)) (pa_cons (pv 0) pa_nil)) (pg_tup rfl (pgs_cons (pg_name (i := 2) sc_take_instruction.nd rfl (Or.inl rfl)) (pgs_cons (pg_name (i := 3) sc_take_instruction.nd rfl (Or.inl rfl)) pgs_nil))))
      (pss_one (ps_ret (pe_tup (pa_cons (pv 2) (pa_cons (pv 3) (pa_cons (pe_meth0 (pv 0) T.cl_Reader T.m_Reader_take_value (ok_Reader_take_value T) (hr.mono (by decide)) T.b_Reader_take_value .nil (passes_call (takes_of rfl rfl rfl rfl) (fun _ _ _ _ h => h))) pa_nil)))))))))), ?_⟩
    have hos : ∀ o ∈ os, 0 ≤ o := fun o ho => (R.lt o ho).1
    refine ⟨_, rfl, r, dx, _, rfl, e, rfl, r, a, os, k, rfl, R, fun hn => ?_, fun o ho => ?_⟩
    · rw [takeIns, hn] at q
      exact q
    rw [takeIns, ho] at q
    dsimp only at q
    refine ⟨_, rfl, _, _, rfl, rfl, _, rfl, ifb (fun h => ?_) (fun h => ?_)⟩
    · have h' : o < 32 := of_decide_eq_true h
      rw [if_pos h'] at q
      refine ⟨_, rfl, r, dx, _, rfl, e, rfl, r, a, os, k, 5, 0, 0, 9999, rfl, R, by decide, by decide, ?_⟩
      refine res_map q (fun _ => rfl) fun z v H1 hz b1 R1 hv go => ?_
      have hb := takeNum_bound os 5 0 0 9999 k hos z.1 z.2 hz
      cases hv
      refine ⟨by show 2 ≤ sizeLine; decide, fun p hp => go _ _ (Same.new hp) ⟨p, rfl, .inl (.inl ?_)⟩⟩
      rw [upd_same]
      show some (HO.tup [.str "again", .int z.1]) = some (HO.tup [.str "again", .int (z.1.toNat : Nat)])
      rw [Int.toNat_of_nonneg hb.1]
    · have h' : ¬ o < 32 := of_decide_eq_false h
      rw [if_neg h'] at q
      refine ⟨_, rfl, _, _, rfl, rfl, _, rfl, ifb (fun h => ?_) (fun h => ?_)⟩
      · have h2' : o < 64 := of_decide_eq_true h
        rw [if_pos h2'] at q
        refine ⟨_, rfl, r, dx, _, rfl, e, rfl, r, a, os, k, 5, 32, 0, 9999, rfl, R, by decide, by decide, ?_⟩
        refine res_map q (fun _ => rfl) fun z v H1 hz b1 R1 hv go => ?_
        have hb := takeNum_bound os 5 32 0 9999 k hos z.1 z.2 hz
        cases hv
        refine ⟨by show 2 ≤ sizeLine; decide, fun p hp => go _ _ (Same.new hp) ⟨p, rfl, .inl (.inl ?_)⟩⟩
        rw [upd_same]
        show some (HO.tup [.str "limit", .int z.1]) = some (HO.tup [.str "limit", .int (z.1.toNat : Nat)])
        rw [Int.toNat_of_nonneg hb.1]
      · have h2' : ¬ o < 64 := of_decide_eq_false h
        rw [if_neg h2'] at q
        refine ⟨_, rfl, r, a, os, k, rfl, R, ?_⟩
        revert q
        cases takeSrc os k with
        | error e => exact fun q => q
        | ok z =>
          obtain ⟨sv, k1⟩ := z
          intro q v H1 b1 R1 hv
          dsimp only at q
          obtain ⟨t, rfl, ht⟩ := hv
          obtain ⟨dx1, e1⟩ := R1.ex
          have q1 := q.pre b1
          have fin : ∀ (c : Str) (u : V) (Q' : VK), srcVs sv = [.str c, u] → (∀ v' H', (∃ x, v' = .str x ∧ ∀ t' H2, Same H' H2 → SqT K H2 t' [.str c, u, .str x] → Q (.ref t') H2) → Q' v' H') → RdRes K T.C_Reader T.C_NoOctets r a os H1 Q' E rStr (takeStr os 7 0 0 40 k1) := by
            intro c u Q' hsv hq
            refine res_map q1 (fun _ => rfl) fun z v H2 hz b2 R2 hv go => ?_
            cases hv
            refine hq _ _ ⟨z.1, rfl, fun t' H3 s3 ht' => go _ _ s3 ⟨t', rfl, ?_⟩⟩
            have : (srcIns z.1 sv).vs = [.str c, u, .str z.1] := by
              rcases sv with y | ⟨b, n⟩
              · cases hsv; rfl
              · cases b <;> (cases hsv; rfl)
            rw [this]
            exact ht'
          rcases sv with y | ⟨b, n⟩
          · refine ⟨t, _, rfl, ht, rfl, ⟨_, _, rfl, ⟨_, _, rfl, rfl, ?_⟩⟩⟩
            refine ⟨_, rfl, _, rfl, _, rfl, r, dx1, _, rfl, e1, rfl, r, a, os, k1, rfl, R1, fin _ _ _ rfl ?_⟩
            rintro v' H' ⟨x, rfl, hq⟩
            exact ⟨by show 3 ≤ sizeLine; decide, fun p hp => hq p _ (Same.new hp) (.inl (.inl upd_same))⟩
          · cases b
            · refine ⟨t, _, rfl, ht, rfl, ⟨_, _, rfl, ⟨_, _, rfl, rfl, ?_⟩⟩⟩
              refine ⟨_, rfl, _, rfl, _, rfl, r, dx1, _, rfl, e1, rfl, r, a, os, k1, rfl, R1, fin _ _ _ rfl ?_⟩
              rintro v' H' ⟨x, rfl, hq⟩
              exact ⟨by show 3 ≤ sizeLine; decide, fun p hp => hq p _ (Same.new hp) (.inl (.inl upd_same))⟩
            · refine ⟨t, _, rfl, ht, rfl, ⟨_, _, rfl, ⟨_, _, rfl, rfl, ?_⟩⟩⟩
              refine ⟨_, rfl, _, rfl, _, rfl, r, dx1, _, rfl, e1, rfl, r, a, os, k1, rfl, R1, fin _ _ _ rfl ?_⟩
              rintro v' H' ⟨x, rfl, hq⟩
              exact ⟨by show 3 ≤ sizeLine; decide, fun p hp => hq p _ (Same.new hp) (.inl (.inl upd_same))⟩

theorem ok_take_answer (T : Txt K mg) : FnOk P w K mg base (CX P w) 6 T.f_take_answer T.d_take_answer ["reader"] (sp_take K T.C_Reader T.C_NoOctets takeAns (rAns K)) := by
  refine T.F_take_answer.okX sc_take_answer (fun vs H Q E h => ?_) (fun cdv A outer s H vs Q E hr h => ?_)
  · obtain ⟨r, a, os, k, rfl, _⟩ := h
    rfl
  · obtain ⟨r, a, os, k, rfl, R, q⟩ := h
    obtain ⟨dx, e⟩ := R.ex
    refine ⟨_, (pss_cons (ps_set (i := 1) sc_take_answer.nd rfl (Or.inl rfl) (pe_meth0 (pv 0) T.cl_Reader T.m_Reader_look (ok_Reader_look T) (hr.mono (by decide)) T.b_Reader_look .nil (passes_call (takes_of rfl rfl rfl rfl) (fun _ _ _ _ h => h))))
      (pss_cons (ps_if (pt_cmpR op_ge (pv 1) pe_int (nomark _)) (pss_one (ps_ret (pe_tup (pa_cons pe_str (pa_cons (pe_meth (pv 0) T.cl_Reader T.m_Reader_take_number (ok_Reader_take_number T) (hr.mono (by decide)) T.b_Reader_take_number .nil (passes_call (takes_of rfl rfl rfl rfl) (fun _ _ _ _ h => h)) (pa_cons pe_int (pa_cons pe_int (pa_cons pe_int (pa_cons (pe_glob (v := .int 20) rfl T.g_STREAM_MOST ⟨_, rfl⟩) pa_nil))))) pa_nil))))) pss_nil)
      (pss_cons (ps_if (pt_cmpR op_ge (pv 1) pe_int (nomark _)) (pss_one (ps_ret (pe_tup (pa_cons pe_str (pa_cons (pe_meth (pv 0) T.cl_Reader T.m_Reader_take_number (ok_Reader_take_number T) (hr.mono (by decide)) T.b_Reader_take_number .nil (passes_call (takes_of rfl rfl rfl rfl) (fun _ _ _ _ h => h)) (pa_cons pe_int (pa_cons pe_int (pa_cons pe_int (pa_cons (pe_glob (v := .int 20) rfl T.g_STREAM_MOST ⟨_, rfl⟩) pa_nil))))) pa_nil))))) pss_nil)
      (pss_one (ps_ret (pe_tup (pa_cons pe_str (pa_cons (pe_meth (pv 0) T.cl_Reader T.m_Reader_take_number (ok_Reader_take_number T) (hr.mono (by decide)) T.b_Reader_take_number .nil (passes_call (takes_of rfl rfl rfl rfl) (fun _ _ _ _ h => h)) (pa_cons pe_int (pa_cons pe_int (pa_cons pe_int (pa_cons (pe_glob (v := .int 9999) rfl T.g_NUMBER_MOST ⟨_, rfl⟩) pa_nil))))) pa_nil)))))))), ?_⟩
    have hos : ∀ o ∈ os, 0 ≤ o := fun o ho => (R.lt o ho).1
    refine ⟨_, rfl, r, dx, _, rfl, e, rfl, r, a, os, k, rfl, R, fun hn => ?_, fun o ho => ?_⟩
    · rw [takeAns, hn] at q
      exact q
    rw [takeAns, ho] at q
    dsimp only at q
    refine ⟨_, rfl, _, _, rfl, rfl, _, rfl, ifb (fun h => ?_) (fun h => ?_)⟩
    · have h' : 128 ≤ o := of_decide_eq_true h
      rw [if_pos h'] at q
      refine ⟨_, rfl, r, dx, _, rfl, e, rfl, r, a, os, k, 7, 128, 0, 20, rfl, R, by decide, by decide, ?_⟩
      refine res_map q (fun _ => rfl) fun z v H1 hz b1 R1 hv go => ?_
      have hb := takeNum_bound os 7 128 0 20 k hos z.1 z.2 hz
      cases hv
      refine ⟨by show 2 ≤ sizeLine; decide, fun p hp => go _ _ (Same.new hp) ⟨p, rfl, .inl (.inl ?_)⟩⟩
      rw [upd_same]
      show some (HO.tup [.str "done", .int z.1]) = some (HO.tup [.str "done", .int (z.1.toNat : Nat)])
      rw [Int.toNat_of_nonneg (by omega)]
    · have h' : ¬ 128 ≤ o := of_decide_eq_false h
      rw [if_neg h'] at q
      refine ⟨_, rfl, _, _, rfl, rfl, _, rfl, ifb (fun h => ?_) (fun h => ?_)⟩
      · have h2' : 64 ≤ o := of_decide_eq_true h
        rw [if_pos h2'] at q
        refine ⟨_, rfl, r, dx, _, rfl, e, rfl, r, a, os, k, 6, 64, 0, 20, rfl, R, by decide, by decide, ?_⟩
        refine res_map q (fun _ => rfl) fun z v H1 hz b1 R1 hv go => ?_
        have hb := takeNum_bound os 6 64 0 20 k hos z.1 z.2 hz
        cases hv
        refine ⟨by show 2 ≤ sizeLine; decide, fun p hp => go _ _ (Same.new hp) ⟨p, rfl, .inl (.inl ?_)⟩⟩
        rw [upd_same]
        show some (HO.tup [.str "cancelled", .int z.1]) = some (HO.tup [.str "cancelled", .int (z.1.toNat : Nat)])
        rw [Int.toNat_of_nonneg (by omega)]
      · have h2' : ¬ 64 ≤ o := of_decide_eq_false h
        rw [if_neg h2'] at q
        refine ⟨_, rfl, r, dx, _, rfl, e, rfl, r, a, os, k, 6, 0, 1, 9999, rfl, R, by decide, by decide, ?_⟩
        refine res_map q (fun _ => rfl) fun z v H1 hz b1 R1 hv go => ?_
        have hb := takeNum_bound os 6 0 1 9999 k hos z.1 z.2 hz
        cases hv
        refine ⟨by show 2 ≤ sizeLine; decide, fun p hp => go _ _ (Same.new hp) ⟨p, rfl, .inl (.inl ?_)⟩⟩
        rw [upd_same]
        show some (HO.tup [.str "received", .int z.1]) = some (HO.tup [.str "received", .int (z.1.toNat : Nat)])
        rw [Int.toNat_of_nonneg (by omega)]
theorem ok_read_instruction (T : Txt K mg) : FnOk P w K mg base (CX P w) 10 T.f_read_instruction T.d_read_instruction ["octets"] (sp_read K T.C_NoOctets T.C_NoOctetList takeIns (rIns K)) := by
  refine T.F_read_instruction.okX sc_read_instruction (fun vs H Q E h => ?_) (fun cdv A outer s H vs Q E hr h => ?_)
  · obtain ⟨v, rfl, _⟩ := h
    rfl
  · obtain ⟨v, rfl, h⟩ := h
    refine ⟨_, (pss_cons (ps_expr (pe_call (ok_check_octets T) (hr.mono (by decide)) rfl T.g_check_octets T.F_check_octets.kp T.b_check_octets .nil (passes_call (takes_of rfl rfl rfl rfl) (fun _ _ _ _ h => h)) (pa_cons (pv 0) pa_nil)))
      (pss_cons (ps_set (i := 1) sc_read_instruction.nd rfl (Or.inl rfl) (pe_make T.M_Reader (ok_Reader_init T) (hr.mono (by decide)) rfl T.g_Reader T.b_Reader_init .nil pass0 (pa_cons (pv 0) pa_nil)))
      (pss_cons (ps_set (i := 2) sc_read_instruction.nd rfl (Or.inl rfl) (pe_call (ok_take_instruction T) (hr.mono (by decide)) rfl T.g_take_instruction T.F_take_instruction.kp T.b_take_instruction .nil (passes_call (takes_of rfl rfl rfl rfl) (fun _ _ _ _ h => h)) (pa_cons (pv 1) pa_nil)))
      (pss_cons (ps_expr (pe_meth0 (pv 1) T.cl_Reader T.m_Reader_finish (ok_Reader_finish T) (hr.mono (by decide)) T.b_Reader_finish .nil (passes_call (takes_of rfl rfl rfl rfl) (fun _ _ _ _ h => h))))
      (pss_one (ps_ret (pv 2))))))), ?_⟩
    rcases h with ⟨a, xs, rfl, hs, hl, hk, q⟩ | ⟨t, k, ht, q⟩
    · refine ⟨_, rfl, _, rfl, .inl ⟨a, xs, rfl, SqL.of hs, hl, hk, fun H1 s1 => ifb (fun h => ?_) (fun h => ?_)⟩⟩
      · rw [if_pos h] at q
        obtain ⟨os, rfl, q⟩ := q
        obtain ⟨os', he, hlt⟩ := oct_list h
        have : os = os' := List.map_inj_right (f := V.int) (fun _ _ z => by injection z) |>.mp he
        subst this
        have ha1 := s1 _ _ hs
        refine ⟨_, rfl, fun x dx hx hdx hne => ?_⟩
        refine ⟨x, a, T.C_Reader, dx, rfl, upd_same, T.cl_Reader, T.nA_Reader_octets, T.nA_Reader_place, fun H2 hoth hx2 => ⟨rfl, ?_⟩⟩
        have s2 : Same H1 H2 := fun b o hb => by
          have n1 : b ≠ x := ne_of_none hb hx
          have n2 : b ≠ dx := ne_of_none hb hdx
          rw [hoth b n1, upd_ne n1, upd_ne n2]
          exact hb
        have hax : a ≠ x := ne_of_none ha1 hx
        have S := s1.trans s2
        have R0 : Rd K T.C_Reader H2 x a os 0 := ⟨⟨dx, hx2⟩, SqL.of (s2 _ _ ha1), hax, hlt, by rw [List.length_map] at hl; exact hl, Nat.zero_le _⟩
        have hxH : H x = none := s1.free hx
        refine ⟨_, rfl, x, a, os, 0, rfl, R0, ?_⟩
        unfold whole at q
        revert q
        cases takeIns os 0 with
        | error e => exact fun q d H3 b3 hd => q d H3 (same_but hxH S b3) hd
        | ok z =>
          intro q v H3 b3 R3 hv
          obtain ⟨dx3, e3⟩ := R3.ex
          dsimp only at q
          have S3 := same_but hxH S b3
          refine ⟨_, rfl, x, dx3, _, rfl, e3, rfl, x, a, os, z.2, rfl, R3, fun hne d H4 b4 hd => ?_, fun he => ?_⟩
          · rw [if_neg hne] at q
            exact q d H4 (same_but hxH S3 b4) hd
          · rw [if_pos he] at q
            exact ⟨_, rfl, q v H3 S3 hv⟩
      · rw [if_neg (by rw [h]; decide)] at q
        exact q H1 s1
    · exact ⟨_, rfl, _, rfl, .inr ⟨t, k, ht, fun H1 s1 => q H1 s1⟩⟩
theorem ok_read_answer (T : Txt K mg) : FnOk P w K mg base (CX P w) 7 T.f_read_answer T.d_read_answer ["octets"] (sp_read K T.C_NoOctets T.C_NoOctetList takeAns (rAns K)) := by
  refine T.F_read_answer.okX sc_read_answer (fun vs H Q E h => ?_) (fun cdv A outer s H vs Q E hr h => ?_)
  · obtain ⟨v, rfl, _⟩ := h
    rfl
  · obtain ⟨v, rfl, h⟩ := h
    refine ⟨_, (pss_cons (ps_expr (pe_call (ok_check_octets T) (hr.mono (by decide)) rfl T.g_check_octets T.F_check_octets.kp T.b_check_octets .nil (passes_call (takes_of rfl rfl rfl rfl) (fun _ _ _ _ h => h)) (pa_cons (pv 0) pa_nil)))
      (pss_cons (ps_set (i := 1) sc_read_answer.nd rfl (Or.inl rfl) (pe_make T.M_Reader (ok_Reader_init T) (hr.mono (by decide)) rfl T.g_Reader T.b_Reader_init .nil pass0 (pa_cons (pv 0) pa_nil)))
      (pss_cons (ps_set (i := 2) sc_read_answer.nd rfl (Or.inl rfl) (pe_call (ok_take_answer T) (hr.mono (by decide)) rfl T.g_take_answer T.F_take_answer.kp T.b_take_answer .nil (passes_call (takes_of rfl rfl rfl rfl) (fun _ _ _ _ h => h)) (pa_cons (pv 1) pa_nil)))
      (pss_cons (ps_expr (pe_meth0 (pv 1) T.cl_Reader T.m_Reader_finish (ok_Reader_finish T) (hr.mono (by decide)) T.b_Reader_finish .nil (passes_call (takes_of rfl rfl rfl rfl) (fun _ _ _ _ h => h))))
      (pss_one (ps_ret (pv 2))))))), ?_⟩
    rcases h with ⟨a, xs, rfl, hs, hl, hk, q⟩ | ⟨t, k, ht, q⟩
    · refine ⟨_, rfl, _, rfl, .inl ⟨a, xs, rfl, SqL.of hs, hl, hk, fun H1 s1 => ifb (fun h => ?_) (fun h => ?_)⟩⟩
      · rw [if_pos h] at q
        obtain ⟨os, rfl, q⟩ := q
        obtain ⟨os', he, hlt⟩ := oct_list h
        have : os = os' := List.map_inj_right (f := V.int) (fun _ _ z => by injection z) |>.mp he
        subst this
        have ha1 := s1 _ _ hs
        refine ⟨_, rfl, fun x dx hx hdx hne => ?_⟩
        refine ⟨x, a, T.C_Reader, dx, rfl, upd_same, T.cl_Reader, T.nA_Reader_octets, T.nA_Reader_place, fun H2 hoth hx2 => ⟨rfl, ?_⟩⟩
        have s2 : Same H1 H2 := fun b o hb => by
          have n1 : b ≠ x := ne_of_none hb hx
          have n2 : b ≠ dx := ne_of_none hb hdx
          rw [hoth b n1, upd_ne n1, upd_ne n2]
          exact hb
        have hax : a ≠ x := ne_of_none ha1 hx
        have S := s1.trans s2
        have R0 : Rd K T.C_Reader H2 x a os 0 := ⟨⟨dx, hx2⟩, SqL.of (s2 _ _ ha1), hax, hlt, by rw [List.length_map] at hl; exact hl, Nat.zero_le _⟩
        have hxH : H x = none := s1.free hx
        refine ⟨_, rfl, x, a, os, 0, rfl, R0, ?_⟩
        unfold whole at q
        revert q
        cases takeAns os 0 with
        | error e => exact fun q d H3 b3 hd => q d H3 (same_but hxH S b3) hd
        | ok z =>
          intro q v H3 b3 R3 hv
          obtain ⟨dx3, e3⟩ := R3.ex
          dsimp only at q
          have S3 := same_but hxH S b3
          refine ⟨_, rfl, x, dx3, _, rfl, e3, rfl, x, a, os, z.2, rfl, R3, fun hne d H4 b4 hd => ?_, fun he => ?_⟩
          · rw [if_neg hne] at q
            exact q d H4 (same_but hxH S3 b4) hd
          · rw [if_pos he] at q
            exact ⟨_, rfl, q v H3 S3 hv⟩
      · rw [if_neg (by rw [h]; decide)] at q
        exact q H1 s1
    · exact ⟨_, rfl, _, rfl, .inr ⟨t, k, ht, fun H1 s1 => q H1 s1⟩⟩

theorem ok_law_draw_instruction (T : Txt K mg) : FnOk P w K mg base CX0 5 T.f_law_draw_instruction T.d_law_draw_instruction ["pen"] sp_law_draw_ins := by
  refine T.F_law_draw_instruction.ok sc_law_draw_instruction (fun vs H Q E h => ?_) (fun cdv A outer s H vs Q E hr h => ?_)
  · obtain ⟨p, c, n, rfl, _⟩ := h
    rfl
  · obtain ⟨p, c, n, rfl, hp, hn, q⟩ := h
    refine ⟨_, (pss_cons (ps_set (i := 1) sc_law_draw_instruction.nd rfl (Or.inl rfl) (pe_call (ok_law_one_of T) (hr.mono (by decide)) rfl T.g_law_one_of T.F_law_one_of.kp T.b_law_one_of .nil pass0 (pa_cons (pv 0) (pa_cons (pe_lst (pa_cons pe_str (pa_cons pe_str (pa_cons pe_str (pa_cons pe_str (pa_cons pe_str pa_nil)))))) pa_nil))))
      (pss_cons (ps_if (pt_cmpR op_eq (pv 1) pe_str (nomark _)) (pss_one (ps_ret (pe_tup (pa_cons (pv 1) (pa_cons (pe_call (ok_law_draw_text T) (hr.mono (by decide)) rfl T.g_law_draw_text T.F_law_draw_text.kp T.b_law_draw_text .nil pass0 (pa_cons (pv 0) (pa_cons pe_int (pa_cons pe_int pa_nil)))) (pa_cons (pe_call (ok_law_draw_text T) (hr.mono (by decide)) rfl T.g_law_draw_text T.F_law_draw_text.kp T.b_law_draw_text .nil pass0 (pa_cons (pv 0) (pa_cons pe_int (pa_cons pe_int pa_nil)))) pa_nil)))))) pss_nil)
      (pss_cons (ps_if (PW.pt (pw_or (pt_cmpR op_eq (pv 1) pe_str (nomark _)) (pw_or1 (pt_cmpR op_eq (pv 1) pe_str (nomark _))))) (pss_one (ps_ret (pe_tup (pa_cons (pv 1) (pa_cons (pe_call (ok_law_draw_number T) (hr.mono (by decide)) rfl T.g_law_draw_number T.F_law_draw_number.kp T.b_law_draw_number .nil pass0 (pa_cons (pv 0) pa_nil)) pa_nil))))) pss_nil)
      (pss_one (ps_ret (pe_tup (pa_cons (pv 1) (pa_cons (pe_call (ok_law_draw_number T) (hr.mono (by decide)) rfl T.g_law_draw_number T.F_law_draw_number.kp T.b_law_draw_number .nil pass0 (pa_cons (pv 0) pa_nil)) (pa_cons (pe_call (ok_law_draw_text T) (hr.mono (by decide)) rfl T.g_law_draw_text T.F_law_draw_text.kp T.b_law_draw_text .nil pass0 (pa_cons (pv 0) (pa_cons pe_int (pa_cons pe_int pa_nil)))) pa_nil))))))))), ?_⟩
    refine ⟨_, rfl, by show 5 ≤ sizeLine; decide, fun l hl => ?_⟩
    refine ⟨p, c, l, n, _, rfl, hp.keep (Same.new hl), SqL.of upd_same, Ne.symm (hp.ne hl), by simp, by simp, by omega, fun x H2 hx d => ?_⟩
    have d1 : Drew p c H H2 (n + 1) := ⟨d.pen, (But.new hl).trans d.but⟩
    have num : ∀ (c0 : Str) (Q' : V → Hp → Prop), True := fun _ _ => True.intro
    simp only [List.mem_cons, List.not_mem_nil, or_false] at hx
    rcases hx with h | h | h | h | h <;> subst h
    · refine ⟨_, rfl, rfl, _, rfl, ifF (by decide) ⟨_, rfl, rfl, _, rfl, ifF (by decide) ⟨_, rfl, rfl, _, rfl, ifF (by decide) ?_⟩⟩⟩
      refine ⟨_, rfl, _, rfl, p, c, n + 1, rfl, d1.pen, by omega, fun z H3 hz d3 => ?_⟩
      refine ⟨_, rfl, p, c, n + 1 + 10, 0, 40, rfl, d3.pen, by omega, by decide, by decide, by decide, fun x H4 hx d4 => ?_⟩
      refine ⟨by show 3 ≤ sizeLine; decide, fun t ht => ?_⟩
      have dd := (d1.trans d3).trans d4
      exact q t (.fixed z x) _ upd_same ⟨hz, hx⟩ ((dd.keep (Same.new ht)).mono (by omega))
    · refine ⟨_, rfl, rfl, _, rfl, ifF (by decide) ⟨_, rfl, rfl, _, rfl, ifF (by decide) ⟨_, rfl, rfl, _, rfl, ifF (by decide) ?_⟩⟩⟩
      refine ⟨_, rfl, _, rfl, p, c, n + 1, rfl, d1.pen, by omega, fun z H3 hz d3 => ?_⟩
      refine ⟨_, rfl, p, c, n + 1 + 10, 0, 40, rfl, d3.pen, by omega, by decide, by decide, by decide, fun x H4 hx d4 => ?_⟩
      refine ⟨by show 3 ≤ sizeLine; decide, fun t ht => ?_⟩
      have dd := (d1.trans d3).trans d4
      exact q t (.entry z x) _ upd_same ⟨hz, hx⟩ ((dd.keep (Same.new ht)).mono (by omega))
    · refine ⟨_, rfl, rfl, _, rfl, ifT (by decide) ?_⟩
      refine ⟨_, rfl, _, rfl, p, c, n + 1, 1, 20, rfl, d1.pen, by omega, by decide, by decide, by decide, fun y H3 hy d3 => ?_⟩
      refine ⟨_, rfl, p, c, n + 1 + 50, 0, 40, rfl, d3.pen, by omega, by decide, by decide, by decide, fun x H4 hx d4 => ?_⟩
      refine ⟨by show 3 ≤ sizeLine; decide, fun t ht => ?_⟩
      have dd := (d1.trans d3).trans d4
      exact q t (.new y x) _ upd_same ⟨hy, hx⟩ ((dd.keep (Same.new ht)).mono (by omega))
    · refine ⟨_, rfl, rfl, _, rfl, ifF (by decide) ⟨_, rfl, rfl, _, rfl, ifT (by decide) ?_⟩⟩
      refine ⟨_, rfl, _, rfl, p, c, n + 1, rfl, d1.pen, by omega, fun z H3 hz d3 => ?_⟩
      refine ⟨by show 2 ≤ sizeLine; decide, fun t ht => ?_⟩
      have dd := d1.trans d3
      exact q t (.again z) _ upd_same hz ((dd.keep (Same.new ht)).mono (by omega))
    · refine ⟨_, rfl, rfl, _, rfl, ifF (by decide) ⟨_, rfl, rfl, _, rfl, ifF (by decide) ⟨_, rfl, rfl, _, rfl, ifT (by decide) ?_⟩⟩⟩
      refine ⟨_, rfl, _, rfl, p, c, n + 1, rfl, d1.pen, by omega, fun z H3 hz d3 => ?_⟩
      refine ⟨by show 2 ≤ sizeLine; decide, fun t ht => ?_⟩
      have dd := d1.trans d3
      exact q t (.limit z) _ upd_same hz ((dd.keep (Same.new ht)).mono (by omega))
theorem ok_law_draw_answer (T : Txt K mg) : FnOk P w K mg base CX0 5 T.f_law_draw_answer T.d_law_draw_answer ["pen"] sp_law_draw_ans := by
  refine T.F_law_draw_answer.ok sc_law_draw_answer (fun vs H Q E h => ?_) (fun cdv A outer s H vs Q E hr h => ?_)
  · obtain ⟨p, c, n, rfl, _⟩ := h
    rfl
  · obtain ⟨p, c, n, rfl, hp, hn, q⟩ := h
    refine ⟨_, (pss_cons (ps_set (i := 1) sc_law_draw_answer.nd rfl (Or.inl rfl) (pe_call (ok_law_one_of T) (hr.mono (by decide)) rfl T.g_law_one_of T.F_law_one_of.kp T.b_law_one_of .nil pass0 (pa_cons (pv 0) (pa_cons (pe_lst (pa_cons pe_str (pa_cons pe_str (pa_cons pe_str pa_nil)))) pa_nil))))
      (pss_one (ps_ret (pe_tup (pa_cons (pv 1) (pa_cons (pe_ifExp (pt_cmpR op_eq (pv 1) pe_str (nomark _)) (pe_callB (call_max2 rfl) rfl T.z_max boot_max (pa_cons pe_int (pa_cons (pe_call (ok_law_draw_number T) (hr.mono (by decide)) rfl T.g_law_draw_number T.F_law_draw_number.kp T.b_law_draw_number .nil pass0 (pa_cons (pv 0) pa_nil)) pa_nil))) (pe_call (ok_law_take T) (hr.mono (by decide)) rfl T.g_law_take T.F_law_take.kp T.b_law_take .nil pass0 (pa_cons (pv 0) (pa_cons pe_int pa_nil)))) pa_nil)))))), ?_⟩
    refine ⟨_, rfl, by show 3 ≤ sizeLine; decide, fun l hl => ?_⟩
    refine ⟨p, c, l, n, _, rfl, hp.keep (Same.new hl), SqL.of upd_same, Ne.symm (hp.ne hl), by simp, by simp, by omega, fun x H2 hx d => ?_⟩
    have d1 : Drew p c H H2 (n + 1) := ⟨d.pen, (But.new hl).trans d.but⟩
    simp only [List.mem_cons, List.not_mem_nil, or_false] at hx
    rcases hx with h | h | h <;> subst h
    · refine ⟨_, rfl, _, rfl, rfl, _, rfl, ifF (by decide) ?_⟩
      refine ⟨_, rfl, p, c, n + 1, 21, rfl, d1.pen, by decide, by decide, by omega, fun r H3 h0 h1 d3 => ?_⟩
      refine ⟨by show 2 ≤ sizeLine; decide, fun t ht => ?_⟩
      obtain ⟨z, rfl⟩ : ∃ z : Nat, r = (z : Int) := ⟨r.toNat, by omega⟩
      exact q t (.done z) _ upd_same (by show z ≤ 20; omega) (((d1.trans d3).keep (Same.new ht)).mono (by omega))
    · refine ⟨_, rfl, _, rfl, rfl, _, rfl, ifF (by decide) ?_⟩
      refine ⟨_, rfl, p, c, n + 1, 21, rfl, d1.pen, by decide, by decide, by omega, fun r H3 h0 h1 d3 => ?_⟩
      refine ⟨by show 2 ≤ sizeLine; decide, fun t ht => ?_⟩
      obtain ⟨z, rfl⟩ : ∃ z : Nat, r = (z : Int) := ⟨r.toNat, by omega⟩
      exact q t (.cancelled z) _ upd_same (by show z ≤ 20; omega) (((d1.trans d3).keep (Same.new ht)).mono (by omega))
    · refine ⟨_, rfl, _, rfl, rfl, _, rfl, ifT (by decide) ?_⟩
      refine ⟨_, rfl, p, c, n + 1, rfl, d1.pen, by omega, fun z H3 hz d3 => ?_⟩
      refine ⟨_, _, rfl, ?_⟩
      refine ⟨by show 2 ≤ sizeLine; decide, fun t ht => ?_⟩
      have e : (if (z : Int) > 1 then (z : Int) else 1) = ((max 1 z : Nat) : Int) := by split <;> omega
      have := q t (.received (max 1 z)) (upd H3 t (.tup [.str "received", .int (if (z : Int) > 1 then (z : Int) else 1)])) (by rw [upd_same, e]; rfl) ⟨by omega, by omega⟩ (((d1.trans d3).keep (Same.new ht)).mono (by omega))
      exact this

theorem ok_is_line (T : Txt K mg) : FnOk P w K mg base CX0 3 T.f_is_line T.d_is_line ["thing", "required"] (sp_is_line K) := by
  refine T.F_is_line.ok sc_is_line (fun vs H Q E h => ?_) (fun cdv A outer s H vs Q E hr h => ?_)
  · obtain ⟨v, l, r, rfl, _⟩ := h
    rfl
  · obtain ⟨v, l, r, rfl, ⟨a, rfl, hs⟩, ok, q⟩ := h
    refine ⟨_, (pss_cons (ps_if (PW.pt (pw_or (pt_not (pt_val (pe_callB call_isi rfl T.z_isinstance boot_isinstance (pa_cons (pv 0) (pa_cons (pe_bltn (v := .ty "tuple") rfl T.z_tuple boot_tuple rfl) pa_nil))))) (pw_or1 (pt_cmpR op_notIn_seq (pe_callB call_len rfl T.z_len boot_len (pa_cons (pv 0) pa_nil)) (pe_tup (pa_cons pe_int (pa_cons pe_int pa_nil))) rfl)))) (pss_one (ps_ret pe_bl)) pss_nil)
      (pss_cons (ps_if (PW.pt (pw_and (pt_cmpR op_eq (pe_callB call_len rfl T.z_len boot_len (pa_cons (pv 0) pa_nil)) pe_int (nomark _)) (pw_and1 (pt_not (pt_val (pe_call (ok_is_value T) (hr.mono (by decide)) rfl T.g_is_value T.F_is_value.kp T.b_is_value .nil pass0 (pa_cons (pe_ix ix_tup (pv 0) pe_int (fun _ _ => rfl)) pa_nil))))))) (pss_one (ps_ret pe_bl)) pss_nil)
      (pss_cons (ps_if (pt_cmpR op_eq (pe_ix ix_tup (pv 0) pe_int (fun _ _ => rfl)) pe_str (nomark _)) (pss_one (ps_ret (pe_call (ok_is_number T) (hr.mono (by decide)) rfl T.g_is_number T.F_is_number.kp T.b_is_number .nil pass0 (pa_cons (pe_ix ix_tup (pv 0) pe_int (fun _ _ => rfl)) pa_nil)))) pss_nil)
      (pss_cons (ps_if (pt_cmpR op_eq (pe_ix ix_tup (pv 0) pe_int (fun _ _ => rfl)) pe_str (nomark _)) (pss_one (ps_ret (pe_call (ok_is_between T) (hr.mono (by decide)) rfl T.g_is_between T.F_is_between.kp T.b_is_between .nil pass0 (pa_cons (pe_ix ix_tup (pv 0) pe_int (fun _ _ => rfl)) (pa_cons pe_int (pa_cons (pe_op op_sub (pv 1) pe_int) pa_nil)))))) pss_nil)
      (pss_one (ps_ret (pe_and (pe_cmpR op_eq (pe_ix ix_tup (pv 0) pe_int (fun _ _ => rfl)) pe_str (nomark _)) (pe_and (pe_cmpR op_eq (pe_callB call_len rfl T.z_len boot_len (pa_cons (pv 0) pa_nil)) pe_int (nomark _)) (pe_one (pe_call (ok_is_name T) (hr.mono (by decide)) rfl T.g_is_name T.F_is_name.kp T.b_is_name .nil pass0 (pa_cons (pe_ix ix_tup (pv 0) pe_int (fun _ _ => rfl)) pa_nil))))))))))), ?_⟩
    have k : Kind K H (.ref a) "tuple" := .tup hs
    refine ⟨_, rfl, _, _, _, _, _, rfl, .ty _, k.ty, k.kit, _, rfl, ifF rfl ?_⟩
    refine ⟨_, rfl, _, _, rfl, .inr ⟨_, hs, rfl⟩, by show 2 ≤ sizeLine; decide, fun tp htp => ?_⟩
    have s1 : Same H (upd H tp (.tup [.int 2, .int 3])) := Same.new htp
    have hs1 := s1.tup hs
    have hx40 : ∀ x : Str, txt (.str x) 0 40 = true → x.length ≤ 100000 := fun x h => by have := txt_len h; omega
    cases l with
    | fix1 n =>
      refine ⟨tp, _, rfl, .inr (.inl (.inl upd_same)), rfl, rfl, _, rfl, ifF rfl ?_⟩
      refine ⟨_, rfl, _, _, rfl, .inr ⟨_, hs1, rfl⟩, rfl, _, rfl, ifF (by show decide (V.int 2 = V.int 3) = false; decide) (ifF rfl ?_)⟩
      refine ⟨_, rfl, _, _, _, _, rfl, rfl, hs1, rfl, rfl, _, rfl, ifT (by decide) ?_⟩
      exact ⟨_, rfl, _, _, _, _, rfl, rfl, hs1, rfl, .int n, "int", rfl, .int _, Q_bl (q _ s1) (btw_t (by omega) (by have h : n ≤ 9999 := ok; omega)).symm⟩
    | fix2 n x =>
      refine ⟨tp, _, rfl, .inr (.inl (.inl upd_same)), rfl, rfl, _, rfl, ifF rfl ?_⟩
      refine ⟨_, rfl, _, _, rfl, .inr ⟨_, hs1, rfl⟩, rfl, _, rfl, ifT (by show decide (V.int 3 = V.int 3) = true; decide) ?_⟩
      refine ⟨_, rfl, _, _, _, _, rfl, rfl, hs1, rfl, .str x, "str", rfl, .str _, fun y e => by cases e; exact hx40 x ok.2, fun H2 s2 => ⟨_, rfl, ?_⟩⟩
      rw [ok.2]
      refine ifF rfl ?_
      have hs2 := s2.tup hs1
      refine ⟨_, rfl, _, _, _, _, rfl, rfl, hs2, rfl, rfl, _, rfl, ifT (by decide) ?_⟩
      exact ⟨_, rfl, _, _, _, _, rfl, rfl, hs2, rfl, .int n, "int", rfl, .int _, Q_bl (q _ (s1.trans s2)) (btw_t (by omega) (by have h := ok.1; omega)).symm⟩
    | ent1 n =>
      refine ⟨tp, _, rfl, .inr (.inl (.inl upd_same)), rfl, rfl, _, rfl, ifF rfl ?_⟩
      refine ⟨_, rfl, _, _, rfl, .inr ⟨_, hs1, rfl⟩, rfl, _, rfl, ifF (by show decide (V.int 2 = V.int 3) = false; decide) (ifF rfl ?_)⟩
      refine ⟨_, rfl, _, _, _, _, rfl, rfl, hs1, rfl, rfl, _, rfl, ifF (by decide) ?_⟩
      refine ⟨_, rfl, _, _, _, _, rfl, rfl, hs1, rfl, rfl, _, rfl, ifT (by decide) ?_⟩
      exact ⟨_, rfl, _, _, _, _, rfl, rfl, hs1, rfl, _, rfl, _, _, rfl, rfl, .int n, "int", 0, _, rfl, .int _, Q_bl (q _ s1) (btw_t (by omega) (by have h : n < r := ok; omega)).symm⟩
    | ent2 n x =>
      refine ⟨tp, _, rfl, .inr (.inl (.inl upd_same)), rfl, rfl, _, rfl, ifF rfl ?_⟩
      refine ⟨_, rfl, _, _, rfl, .inr ⟨_, hs1, rfl⟩, rfl, _, rfl, ifT (by show decide (V.int 3 = V.int 3) = true; decide) ?_⟩
      refine ⟨_, rfl, _, _, _, _, rfl, rfl, hs1, rfl, .str x, "str", rfl, .str _, fun y e => by cases e; exact hx40 x ok.2, fun H2 s2 => ⟨_, rfl, ?_⟩⟩
      rw [ok.2]
      refine ifF rfl ?_
      have hs2 := s2.tup hs1
      refine ⟨_, rfl, _, _, _, _, rfl, rfl, hs2, rfl, rfl, _, rfl, ifF (by decide) ?_⟩
      refine ⟨_, rfl, _, _, _, _, rfl, rfl, hs2, rfl, rfl, _, rfl, ifT (by decide) ?_⟩
      exact ⟨_, rfl, _, _, _, _, rfl, rfl, hs2, rfl, _, rfl, _, _, rfl, rfl, .int n, "int", 0, _, rfl, .int _, Q_bl (q _ (s1.trans s2)) (btw_t (by omega) (by have h := ok.1; omega)).symm⟩
    | out y x =>
      refine ⟨tp, _, rfl, .inr (.inl (.inl upd_same)), rfl, rfl, _, rfl, ifF rfl ?_⟩
      refine ⟨_, rfl, _, _, rfl, .inr ⟨_, hs1, rfl⟩, rfl, _, rfl, ifT (by show decide (V.int 3 = V.int 3) = true; decide) ?_⟩
      refine ⟨_, rfl, _, _, _, _, rfl, rfl, hs1, rfl, .str x, "str", rfl, .str _, fun y e => by cases e; exact hx40 x ok.2, fun H2 s2 => ⟨_, rfl, ?_⟩⟩
      rw [ok.2]
      refine ifF rfl ?_
      have hs2 := s2.tup hs1
      refine ⟨_, rfl, _, _, _, _, rfl, rfl, hs2, rfl, rfl, _, rfl, ifF (by decide) ?_⟩
      refine ⟨_, rfl, _, _, _, _, rfl, rfl, hs2, rfl, rfl, _, rfl, ifF (by decide) ?_⟩
      refine ⟨_, rfl, _, _, _, _, rfl, rfl, hs2, rfl, rfl, _, rfl, ifT (by decide) ?_⟩
      refine ⟨_, rfl, _, _, rfl, .inr ⟨_, hs2, rfl⟩, rfl, _, rfl, ifT (by show decide (V.int 3 = V.int 3) = true; decide) ?_⟩
      exact ⟨_, rfl, _, _, _, _, rfl, rfl, hs2, rfl, .str y, "str", rfl, .str _, fun z e => by cases e; exact hx40 y (txt_20 ok.1), fun H3 s3 => Q_bl (q _ ((s1.trans s2).trans s3)) ok.1.symm⟩
theorem ok_is_block (T : Txt K mg) : FnOk P w K mg base CX0 4 T.f_is_block T.d_is_block ["thing"] (sp_is_block K) := by
  refine T.F_is_block.ok sc_is_block (fun vs H Q E h => ?_) (fun cdv A outer s H vs Q E hr h => ?_)
  · obtain ⟨v, b, rfl, _⟩ := h
    rfl
  · obtain ⟨v, b, rfl, ⟨a, t, xs, rfl, hs, ht, hl⟩, ok, q⟩ := h
    refine ⟨_, (pss_cons (ps_if (PW.pt (pw_or (pt_not (pt_val (pe_callB call_isi rfl T.z_isinstance boot_isinstance (pa_cons (pv 0) (pa_cons (pe_bltn (v := .ty "tuple") rfl T.z_tuple boot_tuple rfl) pa_nil))))) (pw_or1 (pt_cmpR op_ne (pe_callB call_len rfl T.z_len boot_len (pa_cons (pv 0) pa_nil)) pe_int (nomark _))))) (pss_one (ps_ret pe_bl)) pss_nil)
      (pss_cons (ps_asg (pv 0) (pg_tup rfl (pgs_cons (pg_name (i := 1) sc_is_block.nd rfl (Or.inr rfl)) (pgs_cons (pg_name (i := 2) sc_is_block.nd rfl (Or.inl rfl)) (pgs_cons (pg_name (i := 3) sc_is_block.nd rfl (Or.inl rfl)) pgs_nil)))))
      (pss_cons (ps_if (PW.pt (pw_or (pt_not (pt_val (pe_call (ok_is_number T) (hr.mono (by decide)) rfl T.g_is_number T.F_is_number.kp T.b_is_number .nil pass0 (pa_cons (pv 1) pa_nil)))) (pw_or1 (pt_not (pt_val (pe_call (ok_is_between T) (hr.mono (by decide)) rfl T.g_is_between T.F_is_between.kp T.b_is_between .nil pass0 (pa_cons (pv 2) (pa_cons pe_int (pa_cons (pv 1) pa_nil))))))))) (pss_one (ps_ret pe_bl)) pss_nil)
      (pss_cons (ps_if (PW.pt (pw_or (pt_not (pt_val (pe_callB call_isi rfl T.z_isinstance boot_isinstance (pa_cons (pv 3) (pa_cons (pe_bltn (v := .ty "tuple") rfl T.z_tuple boot_tuple rfl) pa_nil))))) (pw_or1 (pt_cmpR op_gt (pe_callB call_len rfl T.z_len boot_len (pa_cons (pv 3) pa_nil)) (pe_glob (v := .int 16) rfl T.g_LINES_MOST ⟨_, rfl⟩) (nomark _))))) (pss_one (ps_ret pe_bl)) pss_nil)
      (pss_one (ps_ret (pe_callB (cr_all rfl) rfl T.z_all boot_all (pa_cons (pe_lc (own := [("line", 4)]) (g := (gName 4)) (tt := tYes)  rfl sc_is_block.nd (pi_tup (pv 3)) (blkOk_by (own := [("line", 4)]) (N := ["thing", "required", "base", "lines", "line"]) (sc := defScope s_is_block) (by decide +kernel)) (fun _ _ _ _ _ => (pg_name (i := 4) sc_is_block.nd rfl (Or.inl rfl))) (fun _ _ _ _ _ => pts_nil) (fun _ _ _ _ _ => (pe_call (ok_is_line T) (hr.mono (by decide)) rfl T.g_is_line T.F_is_line.kp T.b_is_line .nil pass0 (pa_cons (pv 4) (pa_cons (pv 1) pa_nil))))) pa_nil)))))))), ?_⟩
    have k : Kind K H (.ref a) "tuple" := .tup hs
    have kt : Kind K H (.ref t) "tuple" := .tup ht
    have o1 := ok.req_
    have o2 := ok.base_
    have o3 := ok.len_
    have hll := hl.len
    refine ⟨_, rfl, _, _, _, _, _, rfl, .ty _, k.ty, k.kit, _, rfl, ifF rfl ?_⟩
    refine ⟨_, rfl, _, _, rfl, .inr ⟨_, hs, rfl⟩, rfl, _, rfl, ifF (by show (!decide (V.int 3 = V.int 3)) = false; decide) ?_⟩
    refine ⟨_, rfl, a, _, rfl, hs, rfl, ⟨_, _, rfl, ⟨_, _, rfl, ⟨_, _, rfl, rfl, ?_⟩⟩⟩⟩
    refine ⟨_, rfl, .int b.req, "int", rfl, .int _, ⟨_, rfl, ?_⟩⟩
    rw [show btw (.int (b.req : Nat)) 0 9999 = true from btw_t (by omega) (by omega)]
    refine ifF rfl ?_
    refine ⟨_, rfl, _, rfl, .int b.base, "int", 0, b.req, rfl, .int _, ⟨_, rfl, ?_⟩⟩
    rw [show btw (.int (b.base : Nat)) 0 b.req = true from btw_t (by omega) (by omega)]
    refine ifF rfl ?_
    refine ⟨_, rfl, _, _, _, _, _, rfl, .ty _, kt.ty, kt.kit, _, rfl, ifF rfl ?_⟩
    refine ⟨_, rfl, _, _, rfl, .inr ⟨_, ht, rfl⟩, _, _, rfl, rfl, _, rfl, ifF (decide_eq_false (by omega)) ?_⟩
    refine ⟨_, rfl, t, rfl, ⟨xs, ht⟩, fun D hD => ?_⟩
    refine lc_map (walk_tup (xs := xs)) (fun i => V.bl true) (by omega) hD (fun _ s1 => s1.tup ht) ?_ ?_
    · rintro i y H' H'' Q' Z hi s1 ⟨rfl, hy⟩ q'
      refine ⟨rfl, yesI ?_⟩
      obtain ⟨l, hl1, hl2⟩ := hl.at_ hy
      exact ⟨_, rfl, _, rfl, y, l, b.req, rfl, hl2.keep s1, ok.lns_ l (List.mem_of_getElem? hl1), fun H3 s3 => q' H3 s3⟩
    · intro H' s1 hD'
      refine ⟨_, (List.range xs.length).map fun _ => true, rfl, .inl (.inl ?_), ?_⟩
      · rw [hD', List.map_map]; rfl
      · refine Q_bl (q H' s1) ?_
        rw [List.all_map]
        exact (List.all_eq_true.mpr fun _ _ => rfl).symm

theorem ok_whole_octets (T : Txt K mg) : FnOk P w K mg base CX0 4 T.f_whole_octets T.d_whole_octets ["kind", "number", "base"] (sp_whole_octets false) := by
  refine T.F_whole_octets.ok sc_whole_octets (fun vs H Q E h => ?_) (fun cdv A outer s H vs Q E hr h => ?_)
  · obtain ⟨c, n, b, rfl, _⟩ := h
    rfl
  · obtain ⟨c, n, b, rfl, hn, hb, h⟩ := h
    refine ⟨_, (pss_cons (ps_if (pt_cmpR op_eq (pv 0) pe_str (nomark _)) (pss_one (ps_ret (pe_call (ok_number_octets T) (hr.mono (by decide)) rfl T.g_number_octets T.F_number_octets.kp T.b_number_octets .nil pass0 (pa_cons (pv 1) (pa_cons pe_int (pa_cons pe_int pa_nil)))))) pss_nil)
      (pss_cons (ps_if (pt_cmpR op_lt (pv 1) (pv 2) (nomark _)) (pss_one (ps_ret (pe_call (ok_number_octets T) (hr.mono (by decide)) rfl T.g_number_octets T.F_number_octets.kp T.b_number_octets .nil pass0 (pa_cons (pe_op op_sub (pe_op op_sub (pv 2) (pv 1)) pe_int) (pa_cons pe_int (pa_cons pe_int pa_nil)))))) pss_nil)
      (pss_one (ps_ret (pe_call (ok_number_octets T) (hr.mono (by decide)) rfl T.g_number_octets T.F_number_octets.kp T.b_number_octets .nil pass0 (pa_cons (pe_op op_sub (pv 1) (pv 2)) (pa_cons pe_int (pa_cons pe_int pa_nil)))))))), ?_⟩
    rcases h with ⟨rfl, q⟩ | ⟨rfl, q⟩
    · exact ⟨_, rfl, rfl, _, rfl, ifT (by decide) ⟨_, rfl, n, 6, 192, rfl, hn, ⟨by decide, by decide, by decide, by decide +kernel⟩, q⟩⟩
    · refine ⟨_, rfl, rfl, _, rfl, ifF (by decide) ⟨_, rfl, _, rfl, _, _, rfl, rfl, _, rfl, ifb (fun h1 => ?_) (fun h1 => ?_)⟩⟩
      · have h1' : n < b := by have : (n : Int) < (b : Int) := of_decide_eq_true h1; omega
        have q' : RetInts (wholeOct b n) H Q := q
        rw [wholeOct, if_pos h1'] at q'
        refine ⟨_, rfl, _, rfl, _, _, rfl, rfl, _, _, rfl, rfl, ?_⟩
        exact ⟨b - n - 1, 3, 128, by show [V.int ((b : Int) - (n : Int) - 1), V.int 3, V.int 128] = _; rw [show ((b : Int) - (n : Int) - 1) = ((b - n - 1 : Nat) : Int) by omega]; rfl, by omega, ⟨by decide, by decide, by decide, by decide +kernel⟩, q'⟩
      · have h1' : ¬ n < b := by have : ¬ (n : Int) < (b : Int) := of_decide_eq_false h1; omega
        have q' : RetInts (wholeOct b n) H Q := q
        rw [wholeOct, if_neg h1'] at q'
        refine ⟨_, rfl, _, rfl, _, _, rfl, rfl, ?_⟩
        exact ⟨n - b, 2, 16, by show [V.int ((n : Int) - (b : Int)), V.int 2, V.int 16] = _; rw [show ((n : Int) - (b : Int)) = ((n - b : Nat) : Int) by omega]; rfl, by omega, ⟨by decide, by decide, by decide, by decide +kernel⟩, q'⟩
theorem ok_named_octets (T : Txt K mg) : FnOk P w K mg base CX0 4 T.f_named_octets T.d_named_octets ["kind", "number", "base"] (sp_whole_octets true) := by
  refine T.F_named_octets.ok sc_named_octets (fun vs H Q E h => ?_) (fun cdv A outer s H vs Q E hr h => ?_)
  · obtain ⟨c, n, b, rfl, _⟩ := h
    rfl
  · obtain ⟨c, n, b, rfl, hn, hb, h⟩ := h
    refine ⟨_, (pss_cons (ps_if (pt_cmpR op_eq (pv 0) pe_str (nomark _)) (pss_one (ps_ret (pe_call (ok_number_octets T) (hr.mono (by decide)) rfl T.g_number_octets T.F_number_octets.kp T.b_number_octets .nil pass0 (pa_cons (pv 1) (pa_cons pe_int (pa_cons pe_int pa_nil)))))) pss_nil)
      (pss_cons (ps_if (pt_cmpR op_lt (pv 1) (pv 2) (nomark _)) (pss_one (ps_ret (pe_call (ok_number_octets T) (hr.mono (by decide)) rfl T.g_number_octets T.F_number_octets.kp T.b_number_octets .nil pass0 (pa_cons (pe_op op_sub (pe_op op_sub (pv 2) (pv 1)) pe_int) (pa_cons pe_int (pa_cons pe_int pa_nil)))))) pss_nil)
      (pss_one (ps_ret (pe_call (ok_number_octets T) (hr.mono (by decide)) rfl T.g_number_octets T.F_number_octets.kp T.b_number_octets .nil pass0 (pa_cons (pe_op op_sub (pv 1) (pv 2)) (pa_cons pe_int (pa_cons pe_int pa_nil)))))))), ?_⟩
    rcases h with ⟨rfl, q⟩ | ⟨rfl, q⟩
    · exact ⟨_, rfl, rfl, _, rfl, ifT (by decide) ⟨_, rfl, n, 4, 96, rfl, hn, ⟨by decide, by decide, by decide, by decide +kernel⟩, q⟩⟩
    · refine ⟨_, rfl, rfl, _, rfl, ifF (by decide) ⟨_, rfl, _, rfl, _, _, rfl, rfl, _, rfl, ifb (fun h1 => ?_) (fun h1 => ?_)⟩⟩
      · have h1' : n < b := by have : (n : Int) < (b : Int) := of_decide_eq_true h1; omega
        have q' : RetInts (namedOct b n) H Q := q
        rw [namedOct, if_pos h1'] at q'
        refine ⟨_, rfl, _, rfl, _, _, rfl, rfl, _, _, rfl, rfl, ?_⟩
        exact ⟨b - n - 1, 3, 64, by show [V.int ((b : Int) - (n : Int) - 1), V.int 3, V.int 64] = _; rw [show ((b : Int) - (n : Int) - 1) = ((b - n - 1 : Nat) : Int) by omega]; rfl, by omega, ⟨by decide, by decide, by decide, by decide +kernel⟩, q'⟩
      · have h1' : ¬ n < b := by have : ¬ (n : Int) < (b : Int) := of_decide_eq_false h1; omega
        have q' : RetInts (namedOct b n) H Q := q
        rw [namedOct, if_neg h1'] at q'
        refine ⟨_, rfl, _, rfl, _, _, rfl, rfl, ?_⟩
        exact ⟨n - b, 2, 0, by show [V.int ((n : Int) - (b : Int)), V.int 2, V.int 0] = _; rw [show ((n : Int) - (b : Int)) = ((n - b : Nat) : Int) by omega]; rfl, by omega, ⟨by decide, by decide, by decide, by decide +kernel⟩, q'⟩
theorem ok_line_octets (T : Txt K mg) : FnOk P w K mg base CX0 6 T.f_line_octets T.d_line_octets ["line", "base"] (sp_line_octets K) := by
  refine T.F_line_octets.ok sc_line_octets (fun vs H Q E h => ?_) (fun cdv A outer s H vs Q E hr h => ?_)
  · obtain ⟨v, l, b, r, rfl, _⟩ := h
    rfl
  · obtain ⟨v, l, b, r, rfl, ⟨a, rfl, hs⟩, ok, hr9, hbr, q⟩ := h
    refine ⟨_, (pss_cons (ps_set (i := 2) sc_line_octets.nd rfl (Or.inl rfl) (pe_ix ix_tup (pv 0) pe_int (fun _ _ => rfl)))
      (pss_cons (ps_if (pt_cmpR op_eq (pv 2) pe_str (nomark _)) (pss_one (ps_ret (pe_op op_cat (pe_call (ok_string_octets T) (hr.mono (by decide)) rfl T.g_string_octets T.F_string_octets.kp T.b_string_octets .nil pass0 (pa_cons (pe_ix ix_tup (pv 0) pe_int (fun _ _ => rfl)) (pa_cons pe_int (pa_cons pe_int pa_nil)))) (pe_call (ok_value_octets T) (hr.mono (by decide)) rfl T.g_value_octets T.F_value_octets.kp T.b_value_octets .nil pass0 (pa_cons (pe_ix ix_tup (pv 0) pe_int (fun _ _ => rfl)) pa_nil))))) pss_nil)
      (pss_cons (ps_if (pt_cmpR op_eq (pe_callB call_len rfl T.z_len boot_len (pa_cons (pv 0) pa_nil)) pe_int (nomark _)) (pss_one (ps_ret (pe_call (ok_whole_octets T) (hr.mono (by decide)) rfl T.g_whole_octets T.F_whole_octets.kp T.b_whole_octets .nil pass0 (pa_cons (pv 2) (pa_cons (pe_ix ix_tup (pv 0) pe_int (fun _ _ => rfl)) (pa_cons (pv 1) pa_nil)))))) pss_nil)
      (pss_one (ps_ret (pe_op op_cat (pe_call (ok_named_octets T) (hr.mono (by decide)) rfl T.g_named_octets T.F_named_octets.kp T.b_named_octets .nil pass0 (pa_cons (pv 2) (pa_cons (pe_ix ix_tup (pv 0) pe_int (fun _ _ => rfl)) (pa_cons (pv 1) pa_nil)))) (pe_call (ok_value_octets T) (hr.mono (by decide)) rfl T.g_value_octets T.F_value_octets.kp T.b_value_octets .nil pass0 (pa_cons (pe_ix ix_tup (pv 0) pe_int (fun _ _ => rfl)) pa_nil)))))))), ?_⟩
    have e2 : decide (V.int 2 = V.int 2) = true := by decide
    have e3 : decide (V.int 3 = V.int 2) = false := by decide
    cases l with
    | fix1 n =>
      refine ⟨_, rfl, _, _, _, _, rfl, rfl, hs, rfl, ?_⟩
      refine ⟨_, rfl, rfl, _, rfl, ifF (by decide) ⟨_, rfl, _, _, rfl, .inr ⟨_, hs, rfl⟩, rfl, _, rfl, ifT e2 ?_⟩⟩
      exact ⟨_, rfl, _, rfl, _, _, _, _, rfl, rfl, hs, rfl, _, rfl, "fixed", n, b, rfl, ok, by omega, .inl ⟨rfl, q⟩⟩
    | ent1 n =>
      have hn : n < r := ok
      refine ⟨_, rfl, _, _, _, _, rfl, rfl, hs, rfl, ?_⟩
      refine ⟨_, rfl, rfl, _, rfl, ifF (by decide) ⟨_, rfl, _, _, rfl, .inr ⟨_, hs, rfl⟩, rfl, _, rfl, ifT e2 ?_⟩⟩
      exact ⟨_, rfl, _, rfl, _, _, _, _, rfl, rfl, hs, rfl, _, rfl, "entry", n, b, rfl, by omega, by omega, .inr ⟨rfl, q⟩⟩
    | fix2 n x =>
      refine ⟨_, rfl, _, _, _, _, rfl, rfl, hs, rfl, ?_⟩
      refine ⟨_, rfl, rfl, _, rfl, ifF (by decide) ⟨_, rfl, _, _, rfl, .inr ⟨_, hs, rfl⟩, rfl, _, rfl, ifF e3 ?_⟩⟩
      refine ⟨_, rfl, _, rfl, _, _, _, _, rfl, rfl, hs, rfl, _, rfl, "fixed", n, b, rfl, ok.1, by omega, .inl ⟨rfl, fun p H2 hp s2 g2 => ?_⟩⟩
      refine ⟨_, rfl, _, _, _, _, rfl, rfl, s2.tup hs, rfl, x, rfl, ok.2, fun p3 H3 hp3 s3 g3 => ?_⟩
      have g2' : H2 p = some (.lst ((numOct n 4 96).map V.int)) := g2
      have l1 := numOct_len n 4 96
      have l2 := strOct_len (b := 7) (m := 0) (txt_len ok.2)
      have l3 := ok.1
      exact cat_go q (s2.trans s3) (s3 _ _ g2') g3 (by omega)
    | ent2 n x =>
      have hn := ok.1
      refine ⟨_, rfl, _, _, _, _, rfl, rfl, hs, rfl, ?_⟩
      refine ⟨_, rfl, rfl, _, rfl, ifF (by decide) ⟨_, rfl, _, _, rfl, .inr ⟨_, hs, rfl⟩, rfl, _, rfl, ifF e3 ?_⟩⟩
      refine ⟨_, rfl, _, rfl, _, _, _, _, rfl, rfl, hs, rfl, _, rfl, "entry", n, b, rfl, by omega, by omega, .inr ⟨rfl, fun p H2 hp s2 g2 => ?_⟩⟩
      refine ⟨_, rfl, _, _, _, _, rfl, rfl, s2.tup hs, rfl, x, rfl, ok.2, fun p3 H3 hp3 s3 g3 => ?_⟩
      have g2' : H2 p = some (.lst ((namedOct b n).map V.int)) := g2
      have l1 := namedOct_len (base := b) (n := n) (by omega) (by omega)
      have l2 := strOct_len (b := 7) (m := 0) (txt_len ok.2)
      exact cat_go q (s2.trans s3) (s3 _ _ g2') g3 (by omega)
    | out y x =>
      refine ⟨_, rfl, _, _, _, _, rfl, rfl, hs, rfl, ?_⟩
      refine ⟨_, rfl, rfl, _, rfl, ifT (by decide) ?_⟩
      refine ⟨_, rfl, _, _, _, _, rfl, rfl, hs, rfl, y, 4, 32, rfl, txt_20 ok.1, ⟨by decide, by decide, by decide, by decide +kernel⟩, fun p H2 hp s2 g2 => ?_⟩
      refine ⟨_, rfl, _, _, _, _, rfl, rfl, s2.tup hs, rfl, x, rfl, ok.2, fun p3 H3 hp3 s3 g3 => ?_⟩
      have l1 := strOct_len (b := 4) (m := 32) (txt_len (txt_20 ok.1))
      have l2 := strOct_len (b := 7) (m := 0) (txt_len ok.2)
      exact cat_go q (s2.trans s3) (s3 _ _ g2) g3 (by omega)
theorem ok_write_block (T : Txt K mg) : FnOk P w K mg base CX0 7 T.f_write_block T.d_write_block ["block"] (sp_write_block K) := by
  refine T.F_write_block.ok sc_write_block (fun vs H Q E h => ?_) (fun cdv A outer s H vs Q E hr h => ?_)
  · obtain ⟨v, b, rfl, _⟩ := h
    rfl
  · obtain ⟨v, b, rfl, hb, ok, q⟩ := h
    refine ⟨_, (pss_cons (ps_if (pt_not (pt_val (pe_call (ok_is_block T) (hr.mono (by decide)) rfl T.g_is_block T.F_is_block.kp T.b_is_block .nil pass0 (pa_cons (pv 0) pa_nil)))) (pss_one ps_never) pss_nil)
      (pss_cons (ps_asg (pv 0) (pg_tup rfl (pgs_cons (pg_name (i := 1) sc_write_block.nd rfl (Or.inl rfl)) (pgs_cons (pg_name (i := 2) sc_write_block.nd rfl (Or.inl rfl)) (pgs_cons (pg_name (i := 3) sc_write_block.nd rfl (Or.inl rfl)) pgs_nil)))))
      (pss_cons (ps_set (i := 4) sc_write_block.nd rfl (Or.inl rfl) (pe_op op_cat (pe_call (ok_number_octets T) (hr.mono (by decide)) rfl T.g_number_octets T.F_number_octets.kp T.b_number_octets .nil pass0 (pa_cons (pv 1) (pa_cons pe_int (pa_cons pe_int pa_nil)))) (pe_call (ok_number_octets T) (hr.mono (by decide)) rfl T.g_number_octets T.F_number_octets.kp T.b_number_octets .nil pass0 (pa_cons (pe_op op_sub (pv 1) (pv 2)) (pa_cons pe_int (pa_cons pe_int pa_nil))))))
      (pss_cons (ps_for PassesOwn.never rfl (pi_tup (pv 3)) (pg_name (i := 5) sc_write_block.nd rfl (Or.inl rfl))
        (pss_one (ps_expr (pe_bm PySem.F.plainAttrs_list PySem.F.slot_list_extend PySem.F.type_list_extend mt_extend (pv 4) (pa_cons (pe_call (ok_line_octets T) (hr.mono (by decide)) rfl T.g_line_octets T.F_line_octets.kp T.b_line_octets .nil pass0 (pa_cons (pv 5) (pa_cons (pv 2) pa_nil))) pa_nil)))))
      (pss_one (ps_ret (pv 4))))))), ?_⟩
    have o1 := ok.req_
    have o2 := ok.base_
    have o3 := ok.len_
    refine ⟨_, rfl, v, b, rfl, hb, ok, fun H1 s1 => ⟨_, rfl, ifF rfl ?_⟩⟩
    obtain ⟨a, t, xs, rfl, hs, ht, hl⟩ := hb.keep s1
    have hll := hl.len
    refine ⟨_, rfl, a, _, rfl, hs, rfl, ⟨_, _, rfl, ⟨_, _, rfl, ⟨_, _, rfl, rfl, ?_⟩⟩⟩⟩
    refine ⟨_, rfl, b.req, 8, 0, rfl, o1, mark0 (by decide) (by decide), fun p2 H2 hp2 s2 g2 => ?_⟩
    refine ⟨_, rfl, _, rfl, _, _, rfl, rfl, b.req - b.base, 8, 0, by show [V.int ((b.req : Int) - (b.base : Int)), V.int 8, V.int 0] = _; rw [show ((b.req : Int) - (b.base : Int)) = ((b.req - b.base : Nat) : Int) by omega]; rfl, by omega, mark0 (by decide) (by decide), fun p3 H3 hp3 s3 g3 => ?_⟩
    have l1 := numOct_len b.req 8 0
    have l2 := numOct_len (b.req - b.base) 8 0
    refine ⟨p2, p3, _, _, rfl, rfl, s3 _ _ g2, g3, by rw [List.length_map, List.length_map, sizeLine_eq]; omega, fun oc hoc => ?_⟩
    have S3 := s2.trans s3
    have hoc1 : H1 oc = none := S3.free hoc
    refine ⟨_, rfl, t, rfl, ⟨xs, (S3.trans (Same.new hoc)).tup ht⟩, ?_⟩
    refine for_it (walk_tup (xs := xs)) (fun i σ H' => ∃ v5 : Option V, σ = [some (.ref a), some (.int b.req), some (.int b.base), some (.ref t), some (.ref oc), v5] ∧ Same H1 H' ∧ H' oc = some (.lst (((numOct b.req 8 0 ++ numOct (b.req - b.base) 8 0) ++ lnsOct b.base (b.ls.take i)).map V.int))) ⟨_, rfl, S3.put hoc1, ?_⟩ (fun i σ H' _ ⟨_, _, s', _⟩ => s'.tup ht) ?_ ?_
    · rw [upd_same, List.take_zero, ← List.map_append]
      show some (HO.lst _) = some (HO.lst ((_ ++ []).map V.int))
      rw [List.append_nil]
    · rintro i x σ H4 H4' hi ⟨v5, rfl, s4, g4⟩ ⟨rfl, hx⟩
      obtain ⟨l, hl1, hl2⟩ := hl.at_ hx
      have hlo := ok.lns_ l (List.mem_of_getElem? hl1)
      refine ⟨_, rfl, .inl ⟨rfl, _, SqL.of g4⟩, _, rfl, _, rfl, x, l, b.base, b.req, rfl, hl2.keep s4, hlo, o1, o2, fun p5 H5 hp5 s5 g5 => ?_⟩
      have l3 := lns_take_len (i := i) o1 o2 ok.lns_ o3
      have l4 := ln_len (base := b.base) hlo o1 o2
      refine ⟨oc, p5, _, _, rfl, rfl, s5 _ _ g4, g5, ?_, ?_⟩
      · rw [List.length_map, List.length_map, List.length_append, List.length_append, sizeLine_eq]; omega
      · refine ⟨_, rfl, (s4.trans s5).put hoc1, ?_⟩
        rw [upd_same, lns_succ hl1, ← List.map_append, List.append_assoc]
    · rintro σ H4 ⟨v5, rfl, s4, g4⟩
      refine ⟨_, rfl, q oc H4 (s1.free hoc1) (s1.trans s4) ?_⟩
      rw [g4, hll, List.take_length]
      rfl


theorem ok_take_whole (T : Txt K mg) : FnOk P w K mg base (CX P w) 6 T.f_take_whole T.d_take_whole ["reader", "required", "base"] (sp_takeL K T.C_Reader T.C_NoOctets takeWhole (rLn K)) := by
  refine T.F_take_whole.okX sc_take_whole (fun vs H Q E h => ?_) (fun cdv A outer s H vs Q E hr h => ?_)
  · obtain ⟨r, a, os, k, rq, bs, rfl, _⟩ := h
    rfl
  · obtain ⟨r, a, os, k, rq, bs, rfl, R, hbr, hr9, q⟩ := h
    obtain ⟨dx, e⟩ := R.ex
    refine ⟨_, (pss_cons (ps_set (i := 3) sc_take_whole.nd rfl (Or.inl rfl) (pe_meth0 (pv 0) T.cl_Reader T.m_Reader_look (ok_Reader_look T) (hr.mono (by decide)) T.b_Reader_look .nil (passes_call (takes_of rfl rfl rfl rfl) (fun _ _ _ _ h => h))))
      (pss_cons (ps_if (pt_cmpR op_ge (pv 3) pe_int (nomark _)) (pss_one (ps_ret (pe_tup (pa_cons pe_str (pa_cons (pe_meth (pv 0) T.cl_Reader T.m_Reader_take_number (ok_Reader_take_number T) (hr.mono (by decide)) T.b_Reader_take_number .nil (passes_call (takes_of rfl rfl rfl rfl) (fun _ _ _ _ h => h)) (pa_cons pe_int (pa_cons pe_int (pa_cons pe_int (pa_cons (pe_glob (v := .int 9999) rfl T.g_NUMBER_MOST ⟨_, rfl⟩) pa_nil))))) pa_nil))))) pss_nil)
      (pss_cons (ps_if (pt_cmpR op_ge (pv 3) pe_int (nomark _)) (pss_one (ps_ret (pe_tup (pa_cons pe_str (pa_cons (pe_op op_sub (pe_op op_sub (pv 2) pe_int) (pe_meth (pv 0) T.cl_Reader T.m_Reader_take_number (ok_Reader_take_number T) (hr.mono (by decide)) T.b_Reader_take_number .nil (passes_call (takes_of rfl rfl rfl rfl) (fun _ _ _ _ h => h)) (pa_cons pe_int (pa_cons pe_int (pa_cons pe_int (pa_cons (pe_op op_sub (pv 2) pe_int) pa_nil)))))) pa_nil))))) pss_nil)
      (pss_one (ps_ret (pe_tup (pa_cons pe_str (pa_cons (pe_op op_add (pv 2) (pe_meth (pv 0) T.cl_Reader T.m_Reader_take_number (ok_Reader_take_number T) (hr.mono (by decide)) T.b_Reader_take_number .nil (passes_call (takes_of rfl rfl rfl rfl) (fun _ _ _ _ h => h)) (pa_cons pe_int (pa_cons pe_int (pa_cons pe_int (pa_cons (pe_op op_sub (pe_op op_sub (pv 1) (pv 2)) pe_int) pa_nil)))))) pa_nil)))))))), ?_⟩
    have hos : ∀ o ∈ os, 0 ≤ o := fun o ho => (R.lt o ho).1
    refine ⟨_, rfl, r, dx, _, rfl, e, rfl, r, a, os, k, rfl, R, fun hn => ?_, fun o ho => ?_⟩
    · rw [takeWhole, hn] at q
      exact q
    rw [takeWhole, ho] at q
    dsimp only at q
    refine ⟨_, rfl, _, _, rfl, rfl, _, rfl, ifb (fun h => ?_) (fun h => ?_)⟩
    · have h' : 192 ≤ o := of_decide_eq_true h
      rw [if_pos h'] at q
      refine ⟨_, rfl, r, dx, _, rfl, e, rfl, r, a, os, k, 6, 192, 0, 9999, rfl, R, by decide, by decide, ?_⟩
      refine res_map q (fun _ => rfl) fun z v H1 hz b1 R1 hv go => ?_
      have hb := takeNum_bound os 6 192 0 _ k hos z.1 z.2 hz
      cases hv
      refine ⟨by show 2 ≤ sizeLine; decide, fun p hp => go _ _ (Same.new hp) ⟨p, rfl, .inl (.inl ?_)⟩⟩
      rw [upd_same]
      show some (HO.tup [.str "fixed", .int (z.1)]) = some (HO.tup [.str "fixed", .int ((z.1).toNat : Nat)])
      rw [Int.toNat_of_nonneg (by omega)]
    · have h' : ¬ 192 ≤ o := of_decide_eq_false h
      rw [if_neg h'] at q
      refine ⟨_, rfl, _, _, rfl, rfl, _, rfl, ifb (fun h => ?_) (fun h => ?_)⟩
      · have h2' : 128 ≤ o := of_decide_eq_true h
        rw [if_pos h2'] at q
        refine ⟨_, rfl, _, _, rfl, rfl, _, rfl, r, dx, _, rfl, e, rfl, _, rfl, _, _, rfl, rfl, r, a, os, k, 3, 128, 0, (bs : Int) - 1, rfl, R, by decide, by omega, ?_⟩
        refine res_map q (fun _ => rfl) fun z v H1 hz b1 R1 hv go => ?_
        have hb := takeNum_bound os 3 128 0 _ k hos z.1 z.2 hz
        cases hv
        refine ⟨_, _, rfl, rfl, ?_⟩
        refine ⟨by show 2 ≤ sizeLine; decide, fun p hp => go _ _ (Same.new hp) ⟨p, rfl, .inl (.inl ?_)⟩⟩
        rw [upd_same]
        show some (HO.tup [.str "entry", .int ((bs : Int) - 1 - z.1)]) = some (HO.tup [.str "entry", .int (((bs : Int) - 1 - z.1).toNat : Nat)])
        rw [Int.toNat_of_nonneg (by omega)]
      · have h2' : ¬ 128 ≤ o := of_decide_eq_false h
        rw [if_neg h2'] at q
        refine ⟨_, rfl, _, rfl, r, dx, _, rfl, e, rfl, _, rfl, _, rfl, _, _, rfl, rfl, _, _, rfl, rfl, r, a, os, k, 2, 16, 0, (rq : Int) - bs - 1, rfl, R, by decide, by omega, ?_⟩
        refine res_map q (fun _ => rfl) fun z v H1 hz b1 R1 hv go => ?_
        have hb := takeNum_bound os 2 16 0 _ k hos z.1 z.2 hz
        cases hv
        refine ⟨_, _, rfl, rfl, ?_⟩
        refine ⟨by show 2 ≤ sizeLine; decide, fun p hp => go _ _ (Same.new hp) ⟨p, rfl, .inl (.inl ?_)⟩⟩
        rw [upd_same]
        show some (HO.tup [.str "entry", .int ((bs : Int) + z.1)]) = some (HO.tup [.str "entry", .int (((bs : Int) + z.1).toNat : Nat)])
        rw [Int.toNat_of_nonneg (by omega)]
theorem ok_take_named (T : Txt K mg) : FnOk P w K mg base (CX P w) 6 T.f_take_named T.d_take_named ["reader", "required", "base"] (sp_takeL K T.C_Reader T.C_NoOctets takeNamed (rNm K)) := by
  refine T.F_take_named.okX sc_take_named (fun vs H Q E h => ?_) (fun cdv A outer s H vs Q E hr h => ?_)
  · obtain ⟨r, a, os, k, rq, bs, rfl, _⟩ := h
    rfl
  · obtain ⟨r, a, os, k, rq, bs, rfl, R, hbr, hr9, q⟩ := h
    obtain ⟨dx, e⟩ := R.ex
    refine ⟨_, (pss_cons (ps_set (i := 3) sc_take_named.nd rfl (Or.inl rfl) (pe_meth0 (pv 0) T.cl_Reader T.m_Reader_look (ok_Reader_look T) (hr.mono (by decide)) T.b_Reader_look .nil (passes_call (takes_of rfl rfl rfl rfl) (fun _ _ _ _ h => h))))
      (pss_cons (ps_if (pt_cmpR op_ge (pv 3) pe_int (nomark _)) (pss_one (ps_ret (pe_tup (pa_cons pe_str (pa_cons (pe_meth (pv 0) T.cl_Reader T.m_Reader_take_number (ok_Reader_take_number T) (hr.mono (by decide)) T.b_Reader_take_number .nil (passes_call (takes_of rfl rfl rfl rfl) (fun _ _ _ _ h => h)) (pa_cons pe_int (pa_cons pe_int (pa_cons pe_int (pa_cons (pe_glob (v := .int 9999) rfl T.g_NUMBER_MOST ⟨_, rfl⟩) pa_nil))))) pa_nil))))) pss_nil)
      (pss_cons (ps_if (pt_cmpR op_ge (pv 3) pe_int (nomark _)) (pss_one (ps_ret (pe_tup (pa_cons pe_str (pa_cons (pe_op op_sub (pe_op op_sub (pv 2) pe_int) (pe_meth (pv 0) T.cl_Reader T.m_Reader_take_number (ok_Reader_take_number T) (hr.mono (by decide)) T.b_Reader_take_number .nil (passes_call (takes_of rfl rfl rfl rfl) (fun _ _ _ _ h => h)) (pa_cons pe_int (pa_cons pe_int (pa_cons pe_int (pa_cons (pe_op op_sub (pv 2) pe_int) pa_nil)))))) pa_nil))))) pss_nil)
      (pss_one (ps_ret (pe_tup (pa_cons pe_str (pa_cons (pe_op op_add (pv 2) (pe_meth (pv 0) T.cl_Reader T.m_Reader_take_number (ok_Reader_take_number T) (hr.mono (by decide)) T.b_Reader_take_number .nil (passes_call (takes_of rfl rfl rfl rfl) (fun _ _ _ _ h => h)) (pa_cons pe_int (pa_cons pe_int (pa_cons pe_int (pa_cons (pe_op op_sub (pe_op op_sub (pv 1) (pv 2)) pe_int) pa_nil)))))) pa_nil)))))))), ?_⟩
    have hos : ∀ o ∈ os, 0 ≤ o := fun o ho => (R.lt o ho).1
    refine ⟨_, rfl, r, dx, _, rfl, e, rfl, r, a, os, k, rfl, R, fun hn => ?_, fun o ho => ?_⟩
    · rw [takeNamed, hn] at q
      exact q
    rw [takeNamed, ho] at q
    dsimp only at q
    refine ⟨_, rfl, _, _, rfl, rfl, _, rfl, ifb (fun h => ?_) (fun h => ?_)⟩
    · have h' : 96 ≤ o := of_decide_eq_true h
      rw [if_pos h'] at q
      refine ⟨_, rfl, r, dx, _, rfl, e, rfl, r, a, os, k, 4, 96, 0, 9999, rfl, R, by decide, by decide, ?_⟩
      refine res_map q (fun _ => rfl) fun z v H1 hz b1 R1 hv go => ?_
      have hb := takeNum_bound os 4 96 0 _ k hos z.1 z.2 hz
      cases hv
      refine ⟨by show 2 ≤ sizeLine; decide, fun p hp => go _ _ (Same.new hp) ⟨p, rfl, .inl (.inl ?_)⟩⟩
      rw [upd_same]
      show some (HO.tup [.str "fixed", .int (z.1)]) = some (HO.tup [.str "fixed", .int ((z.1).toNat : Nat)])
      rw [Int.toNat_of_nonneg (by omega)]
    · have h' : ¬ 96 ≤ o := of_decide_eq_false h
      rw [if_neg h'] at q
      refine ⟨_, rfl, _, _, rfl, rfl, _, rfl, ifb (fun h => ?_) (fun h => ?_)⟩
      · have h2' : 64 ≤ o := of_decide_eq_true h
        rw [if_pos h2'] at q
        refine ⟨_, rfl, _, _, rfl, rfl, _, rfl, r, dx, _, rfl, e, rfl, _, rfl, _, _, rfl, rfl, r, a, os, k, 3, 64, 0, (bs : Int) - 1, rfl, R, by decide, by omega, ?_⟩
        refine res_map q (fun _ => rfl) fun z v H1 hz b1 R1 hv go => ?_
        have hb := takeNum_bound os 3 64 0 _ k hos z.1 z.2 hz
        cases hv
        refine ⟨_, _, rfl, rfl, ?_⟩
        refine ⟨by show 2 ≤ sizeLine; decide, fun p hp => go _ _ (Same.new hp) ⟨p, rfl, .inl (.inl ?_)⟩⟩
        rw [upd_same]
        show some (HO.tup [.str "entry", .int ((bs : Int) - 1 - z.1)]) = some (HO.tup [.str "entry", .int (((bs : Int) - 1 - z.1).toNat : Nat)])
        rw [Int.toNat_of_nonneg (by omega)]
      · have h2' : ¬ 64 ≤ o := of_decide_eq_false h
        rw [if_neg h2'] at q
        refine ⟨_, rfl, _, rfl, r, dx, _, rfl, e, rfl, _, rfl, _, rfl, _, _, rfl, rfl, _, _, rfl, rfl, r, a, os, k, 2, 0, 0, (rq : Int) - bs - 1, rfl, R, by decide, by omega, ?_⟩
        refine res_map q (fun _ => rfl) fun z v H1 hz b1 R1 hv go => ?_
        have hb := takeNum_bound os 2 0 0 _ k hos z.1 z.2 hz
        cases hv
        refine ⟨_, _, rfl, rfl, ?_⟩
        refine ⟨by show 2 ≤ sizeLine; decide, fun p hp => go _ _ (Same.new hp) ⟨p, rfl, .inl (.inl ?_)⟩⟩
        rw [upd_same]
        show some (HO.tup [.str "entry", .int ((bs : Int) + z.1)]) = some (HO.tup [.str "entry", .int (((bs : Int) + z.1).toNat : Nat)])
        rw [Int.toNat_of_nonneg (by omega)]

theorem ok_take_line (T : Txt K mg) : FnOk P w K mg base (CX P w) 8 T.f_take_line T.d_take_line ["reader", "required", "base"] (sp_takeL K T.C_Reader T.C_NoOctets takeLine (rLn K)) := by
  refine T.F_take_line.okX sc_take_line (fun vs H Q E h => ?_) (fun cdv A outer s H vs Q E hr h => ?_)
  · obtain ⟨r, a, os, k, rq, bs, rfl, _⟩ := h
    rfl
  · obtain ⟨r, a, os, k, rq, bs, rfl, R, hbr, hr9, q⟩ := h
    obtain ⟨dx, e⟩ := R.ex
    refine ⟨_, (pss_cons (ps_set (i := 3) sc_take_line.nd rfl (Or.inl rfl) (pe_meth0 (pv 0) T.cl_Reader T.m_Reader_look (ok_Reader_look T) (hr.mono (by decide)) T.b_Reader_look .nil (passes_call (takes_of rfl rfl rfl rfl) (fun _ _ _ _ h => h))))
      (pss_cons (ps_if (PW.pt (pw_or (pt_cmpR op_ge (pv 3) pe_int (nomark _)) (pw_or1 (pt_chain op_le op_lt pe_int (pv 3) pe_int)))) (pss_one (ps_ret (pe_call (ok_take_whole T) (hr.mono (by decide)) rfl T.g_take_whole T.F_take_whole.kp T.b_take_whole .nil (passes_call (takes_of rfl rfl rfl rfl) (fun _ _ _ _ h => h)) (pa_cons (pv 0) (pa_cons (pv 1) (pa_cons (pv 2) pa_nil)))))) pss_nil)
      (pss_cons (ps_if (pt_chain op_le op_lt pe_int (pv 3) pe_int) (pss_cons (ps_set (i := 4) sc_take_line.nd rfl (Or.inl rfl) (pe_meth (pv 0) T.cl_Reader T.m_Reader_take_name (ok_Reader_take_name T) (hr.mono (by decide)) T.b_Reader_take_name .nil (passes_call (takes_of rfl rfl rfl rfl) (fun _ _ _ _ h => h)) (pa_cons pe_int (pa_cons pe_int pa_nil))))
      (pss_one (ps_ret (pe_tup (pa_cons pe_str (pa_cons (pv 4) (pa_cons (pe_meth0 (pv 0) T.cl_Reader T.m_Reader_take_value (ok_Reader_take_value T) (hr.mono (by decide)) T.b_Reader_take_value .nil (passes_call (takes_of rfl rfl rfl rfl) (fun _ _ _ _ h => h))) pa_nil))))))) pss_nil)
      (pss_cons (ps_asg (pe_call (ok_take_named T) (hr.mono (by decide)) rfl T.g_take_named T.F_take_named.kp T.b_take_named .nil (passes_call (takes_of rfl rfl rfl rfl) (fun _ _ _ _ h => h)) (pa_cons (pv 0) (pa_cons (pv 1) (pa_cons (pv 2) pa_nil)))) (pg_tup rfl (pgs_cons (pg_name (i := 5) sc_take_line.nd rfl (Or.inl rfl)) (pgs_cons (pg_name (i := 6) sc_take_line.nd rfl (Or.inl rfl)) pgs_nil))))
      (pss_one (ps_ret (pe_tup (pa_cons (pv 5) (pa_cons (pv 6) (pa_cons (pe_meth0 (pv 0) T.cl_Reader T.m_Reader_take_value (ok_Reader_take_value T) (hr.mono (by decide)) T.b_Reader_take_value .nil (passes_call (takes_of rfl rfl rfl rfl) (fun _ _ _ _ h => h))) pa_nil)))))))))), ?_⟩
    refine ⟨_, rfl, r, dx, _, rfl, e, rfl, r, a, os, k, rfl, R, fun hn => ?_, fun o ho => ?_⟩
    · rw [takeLine, hn] at q
      exact q
    rw [takeLine, ho] at q
    dsimp only at q
    have W : (128 ≤ o ∨ (16 ≤ o ∧ o < 32)) → sp_takeL K T.C_Reader T.C_NoOctets takeWhole (rLn K) [.ref r, .int rq, .int bs] H Q E := fun h => by
      rw [if_pos h] at q
      exact ⟨r, a, os, k, rq, bs, rfl, R, hbr, hr9, q⟩
    refine ⟨_, rfl, _, _, rfl, rfl, _, rfl, ifb (fun h => ?_) (fun h => ?_)⟩
    · have h' : 128 ≤ o := of_decide_eq_true h
      exact iteT ⟨_, rfl, _, rfl, _, rfl, W (.inl h')⟩
    have h1 : ¬ 128 ≤ o := of_decide_eq_false h
    refine ⟨_, rfl, _, _, rfl, rfl, _, rfl, ifb (fun h => ?_) (fun h => ?_)⟩
    · have h16 : 16 ≤ o := of_decide_eq_true h
      refine ⟨_, _, rfl, rfl, _, rfl, ifb (fun h => ?_) (fun h => ?_)⟩
      · have h32 : o < 32 := of_decide_eq_true h
        exact ⟨_, rfl, _, rfl, _, rfl, W (.inr ⟨h16, h32⟩)⟩
      · have h32 : ¬ o < 32 := of_decide_eq_false h
        have hw : ¬ (128 ≤ o ∨ (16 ≤ o ∧ o < 32)) := by omega
        rw [if_neg hw] at q
        refine ⟨_, rfl, _, _, rfl, rfl, _, rfl, ifb (fun h => ?_) (fun h => ?_)⟩
        · have h32 : 32 ≤ o := of_decide_eq_true h
          refine ⟨_, _, rfl, rfl, _, rfl, ifb (fun h => ?_) (fun h => ?_)⟩
          · have h64 : o < 64 := of_decide_eq_true h
            rw [if_pos ⟨h32, h64⟩] at q
            refine ⟨_, rfl, r, dx, _, rfl, e, rfl, r, a, os, k, 4, 32, rfl, R, by decide, ?_⟩
            revert q
            cases takeStr os 4 32 1 20 k with
            | error z => exact fun q => q
            | ok z =>
              obtain ⟨y, k1⟩ := z
              intro q v H1 b1 R1 hv
              cases hv
              dsimp only at q
              obtain ⟨dx1, e1⟩ := R1.ex
              refine ⟨_, rfl, _, rfl, r, dx1, _, rfl, e1, rfl, r, a, os, k1, rfl, R1, ?_⟩
              refine res_map (q.pre b1) (fun _ => rfl) fun z v H2 hz b2 R2 hv go => ?_
              cases hv
              exact ⟨by show 3 ≤ sizeLine; decide, fun p hp => go _ _ (Same.new hp) ⟨p, rfl, .inl (.inl upd_same)⟩⟩
          · have h64 : ¬ o < 64 := of_decide_eq_false h
            rw [if_neg (fun z => h64 z.2)] at q
            refine ⟨_, rfl, _, rfl, _, rfl, r, a, os, k, rq, bs, rfl, R, hbr, hr9, ?_⟩
            revert q
            cases takeNamed os rq bs k with
            | error z => exact fun q => q
            | ok z =>
              obtain ⟨⟨f, n⟩, k1⟩ := z
              intro q v H1 b1 R1 hv
              dsimp only at q
              obtain ⟨t, rfl, ht⟩ := hv
              obtain ⟨dx1, e1⟩ := R1.ex
              refine ⟨t, _, rfl, ht, rfl, ⟨_, _, rfl, ⟨_, _, rfl, rfl, ?_⟩⟩⟩
              refine ⟨_, rfl, _, rfl, _, rfl, r, dx1, _, rfl, e1, rfl, r, a, os, k1, rfl, R1, ?_⟩
              refine res_map (q.pre b1) (fun _ => rfl) fun z v H2 hz b2 R2 hv go => ?_
              cases hv
              refine ⟨by show 3 ≤ sizeLine; decide, fun p hp => go _ _ (Same.new hp) ⟨p, rfl, .inl (.inl ?_)⟩⟩
              rw [upd_same]
              cases f <;> rfl
        · have h32 : ¬ 32 ≤ o := of_decide_eq_false h
          refine ⟨_, rfl, ifF rfl ?_⟩
          rw [if_neg (fun z => h32 z.1)] at q
          refine ⟨_, rfl, _, rfl, _, rfl, r, a, os, k, rq, bs, rfl, R, hbr, hr9, ?_⟩
          revert q
          cases takeNamed os rq bs k with
          | error z => exact fun q => q
          | ok z =>
            obtain ⟨⟨f, n⟩, k1⟩ := z
            intro q v H1 b1 R1 hv
            dsimp only at q
            obtain ⟨t, rfl, ht⟩ := hv
            obtain ⟨dx1, e1⟩ := R1.ex
            refine ⟨t, _, rfl, ht, rfl, ⟨_, _, rfl, ⟨_, _, rfl, rfl, ?_⟩⟩⟩
            refine ⟨_, rfl, _, rfl, _, rfl, r, dx1, _, rfl, e1, rfl, r, a, os, k1, rfl, R1, ?_⟩
            refine res_map (q.pre b1) (fun _ => rfl) fun z v H2 hz b2 R2 hv go => ?_
            cases hv
            refine ⟨by show 3 ≤ sizeLine; decide, fun p hp => go _ _ (Same.new hp) ⟨p, rfl, .inl (.inl ?_)⟩⟩
            rw [upd_same]
            cases f <;> rfl
    · have h16 : ¬ 16 ≤ o := of_decide_eq_false h
      have hw : ¬ (128 ≤ o ∨ (16 ≤ o ∧ o < 32)) := by omega
      refine ⟨_, rfl, ifF rfl ?_⟩
      rw [if_neg hw] at q
      refine ⟨_, rfl, _, _, rfl, rfl, _, rfl, ifb (fun h => ?_) (fun h => ?_)⟩
      · have h32 : 32 ≤ o := of_decide_eq_true h
        refine ⟨_, _, rfl, rfl, _, rfl, ifb (fun h => ?_) (fun h => ?_)⟩
        · have h64 : o < 64 := of_decide_eq_true h
          rw [if_pos ⟨h32, h64⟩] at q
          refine ⟨_, rfl, r, dx, _, rfl, e, rfl, r, a, os, k, 4, 32, rfl, R, by decide, ?_⟩
          revert q
          cases takeStr os 4 32 1 20 k with
          | error z => exact fun q => q
          | ok z =>
            obtain ⟨y, k1⟩ := z
            intro q v H1 b1 R1 hv
            cases hv
            dsimp only at q
            obtain ⟨dx1, e1⟩ := R1.ex
            refine ⟨_, rfl, _, rfl, r, dx1, _, rfl, e1, rfl, r, a, os, k1, rfl, R1, ?_⟩
            refine res_map (q.pre b1) (fun _ => rfl) fun z v H2 hz b2 R2 hv go => ?_
            cases hv
            exact ⟨by show 3 ≤ sizeLine; decide, fun p hp => go _ _ (Same.new hp) ⟨p, rfl, .inl (.inl upd_same)⟩⟩
        · have h64 : ¬ o < 64 := of_decide_eq_false h
          rw [if_neg (fun z => h64 z.2)] at q
          refine ⟨_, rfl, _, rfl, _, rfl, r, a, os, k, rq, bs, rfl, R, hbr, hr9, ?_⟩
          revert q
          cases takeNamed os rq bs k with
          | error z => exact fun q => q
          | ok z =>
            obtain ⟨⟨f, n⟩, k1⟩ := z
            intro q v H1 b1 R1 hv
            dsimp only at q
            obtain ⟨t, rfl, ht⟩ := hv
            obtain ⟨dx1, e1⟩ := R1.ex
            refine ⟨t, _, rfl, ht, rfl, ⟨_, _, rfl, ⟨_, _, rfl, rfl, ?_⟩⟩⟩
            refine ⟨_, rfl, _, rfl, _, rfl, r, dx1, _, rfl, e1, rfl, r, a, os, k1, rfl, R1, ?_⟩
            refine res_map (q.pre b1) (fun _ => rfl) fun z v H2 hz b2 R2 hv go => ?_
            cases hv
            refine ⟨by show 3 ≤ sizeLine; decide, fun p hp => go _ _ (Same.new hp) ⟨p, rfl, .inl (.inl ?_)⟩⟩
            rw [upd_same]
            cases f <;> rfl
      · have h32 : ¬ 32 ≤ o := of_decide_eq_false h
        refine ⟨_, rfl, ifF rfl ?_⟩
        rw [if_neg (fun z => h32 z.1)] at q
        refine ⟨_, rfl, _, rfl, _, rfl, r, a, os, k, rq, bs, rfl, R, hbr, hr9, ?_⟩
        revert q
        cases takeNamed os rq bs k with
        | error z => exact fun q => q
        | ok z =>
          obtain ⟨⟨f, n⟩, k1⟩ := z
          intro q v H1 b1 R1 hv
          dsimp only at q
          obtain ⟨t, rfl, ht⟩ := hv
          obtain ⟨dx1, e1⟩ := R1.ex
          refine ⟨t, _, rfl, ht, rfl, ⟨_, _, rfl, ⟨_, _, rfl, rfl, ?_⟩⟩⟩
          refine ⟨_, rfl, _, rfl, _, rfl, r, dx1, _, rfl, e1, rfl, r, a, os, k1, rfl, R1, ?_⟩
          refine res_map (q.pre b1) (fun _ => rfl) fun z v H2 hz b2 R2 hv go => ?_
          cases hv
          refine ⟨by show 3 ≤ sizeLine; decide, fun p hp => go _ _ (Same.new hp) ⟨p, rfl, .inl (.inl ?_)⟩⟩
          rw [upd_same]
          cases f <;> rfl

theorem ok_read_block (T : Txt K mg) : FnOk P w K mg base (CX P w) 9 T.f_read_block T.d_read_block ["octets"] (sp_read K T.C_NoOctets T.C_NoOctetList takeBlk (rBlk K)) := by
  refine T.F_read_block.okX sc_read_block (fun vs H Q E h => ?_) (fun cdv A outer s H vs Q E hr h => ?_)
  · obtain ⟨v, rfl, _⟩ := h
    rfl
  · obtain ⟨v, rfl, h⟩ := h
    refine ⟨_, (pss_cons (ps_expr (pe_call (ok_check_octets T) (hr.mono (by decide)) rfl T.g_check_octets T.F_check_octets.kp T.b_check_octets .nil (passes_call (takes_of rfl rfl rfl rfl) (fun _ _ _ _ h => h)) (pa_cons (pv 0) pa_nil)))
      (pss_cons (ps_set (i := 1) sc_read_block.nd rfl (Or.inl rfl) (pe_make T.M_Reader (ok_Reader_init T) (hr.mono (by decide)) rfl T.g_Reader T.b_Reader_init .nil pass0 (pa_cons (pv 0) pa_nil)))
      (pss_cons (ps_set (i := 2) sc_read_block.nd rfl (Or.inl rfl) (pe_meth (pv 1) T.cl_Reader T.m_Reader_take_number (ok_Reader_take_number T) (hr.mono (by decide)) T.b_Reader_take_number .nil (passes_call (takes_of rfl rfl rfl rfl) (fun _ _ _ _ h => h)) (pa_cons pe_int (pa_cons pe_int (pa_cons pe_int (pa_cons (pe_glob (v := .int 9999) rfl T.g_NUMBER_MOST ⟨_, rfl⟩) pa_nil))))))
      (pss_cons (ps_set (i := 3) sc_read_block.nd rfl (Or.inl rfl) (pe_op op_sub (pv 2) (pe_meth (pv 1) T.cl_Reader T.m_Reader_take_number (ok_Reader_take_number T) (hr.mono (by decide)) T.b_Reader_take_number .nil (passes_call (takes_of rfl rfl rfl rfl) (fun _ _ _ _ h => h)) (pa_cons pe_int (pa_cons pe_int (pa_cons pe_int (pa_cons (pv 2) pa_nil)))))))
      (pss_cons (ps_set (i := 4) sc_read_block.nd rfl (Or.inl rfl) (pe_lst pa_nil))
      (pss_cons (ps_while (passes_of rfl) (PW.pt (pw_and (pt_not (pt_val (pe_meth0 (pv 1) T.cl_Reader T.m_Reader_at_end (ok_Reader_at_end T) (hr.mono (by decide)) T.b_Reader_at_end .nil pass0))) (pw_and1 (pt_cmpR op_lt (pe_callB call_len rfl T.z_len boot_len (pa_cons (pv 4) pa_nil)) (pe_glob (v := .int 16) rfl T.g_LINES_MOST ⟨_, rfl⟩) (nomark _)))))
        (pss_one (ps_expr (pe_bm PySem.F.plainAttrs_list PySem.F.slot_list_append PySem.F.type_list_append mt_append (pv 4) (pa_cons (pe_call (ok_take_line T) (hr.mono (by decide)) rfl T.g_take_line T.F_take_line.kp T.b_take_line .nil (passes_call (takes_of rfl rfl rfl rfl) (fun _ _ _ _ h => h)) (pa_cons (pv 1) (pa_cons (pv 2) (pa_cons (pv 3) pa_nil)))) pa_nil)))))
      (pss_cons (ps_expr (pe_meth0 (pv 1) T.cl_Reader T.m_Reader_finish (ok_Reader_finish T) (hr.mono (by decide)) T.b_Reader_finish .nil (passes_call (takes_of rfl rfl rfl rfl) (fun _ _ _ _ h => h))))
      (pss_one (ps_ret (pe_tup (pa_cons (pv 2) (pa_cons (pv 3) (pa_cons (pe_callTy call_tuple_of rfl T.z_tuple boot_tuple (pa_cons (pv 4) pa_nil)) pa_nil))))))))))))), ?_⟩
    rcases h with ⟨a, xs, rfl, hs, hl, hk, q⟩ | ⟨t, k, ht, q⟩
    · refine ⟨_, rfl, _, rfl, .inl ⟨a, xs, rfl, SqL.of hs, hl, hk, fun H1 s1 => ifb (fun h => ?_) (fun h => ?_)⟩⟩
      · rw [if_pos h] at q
        obtain ⟨os, rfl, q⟩ := q
        obtain ⟨os', he, hlt⟩ := oct_list h
        have : os = os' := List.map_inj_right (f := V.int) (fun _ _ z => by injection z) |>.mp he
        subst this
        have hos : ∀ o ∈ os, 0 ≤ o := fun o ho => (hlt o ho).1
        have ha1 := s1 _ _ hs
        refine ⟨_, rfl, fun x dx hx hdx hne => ?_⟩
        refine ⟨x, a, T.C_Reader, dx, rfl, upd_same, T.cl_Reader, T.nA_Reader_octets, T.nA_Reader_place, fun H2 hoth hx2 => ⟨rfl, ?_⟩⟩
        have s2 : Same H1 H2 := fun b o hb => by
          have n1 : b ≠ x := ne_of_none hb hx
          have n2 : b ≠ dx := ne_of_none hb hdx
          rw [hoth b n1, upd_ne n1, upd_ne n2]
          exact hb
        have hax : a ≠ x := ne_of_none ha1 hx
        have S := s1.trans s2
        have R0 : Rd K T.C_Reader H2 x a os 0 := ⟨⟨dx, hx2⟩, SqL.of (s2 _ _ ha1), hax, hlt, by rw [List.length_map] at hl; exact hl, Nat.zero_le _⟩
        have hxH : H x = none := s1.free hx
        unfold whole takeBlk at q
        refine ⟨_, rfl, x, dx, _, rfl, hx2, rfl, x, a, os, 0, 8, 0, 0, 9999, rfl, R0, by decide, by decide, ?_⟩
        have bd1 := takeNum_bound os 8 0 0 9999 0 hos
        revert q bd1
        cases takeNum os 8 0 0 9999 0 with
        | error e => exact fun q _ d H3 b3 hd => q d H3 (same_but hxH S b3) hd
        | ok z =>
          obtain ⟨rq, k1⟩ := z
          intro q bd1 v H3 b3 R3 hv
          cases hv
          dsimp only at q
          obtain ⟨h0, h9⟩ := bd1 rq k1 rfl
          obtain ⟨rqn, rfl⟩ : ∃ n : Nat, rq = (n : Int) := ⟨rq.toNat, by omega⟩
          have S3 := same_but hxH S b3
          obtain ⟨dx3, e3⟩ := R3.ex
          refine ⟨_, rfl, _, rfl, x, dx3, _, rfl, e3, rfl, _, rfl, x, a, os, k1, 8, 0, 0, rqn, rfl, R3, by decide, by omega, ?_⟩
          have bd2 := takeNum_bound os 8 0 0 rqn k1 hos
          revert q bd2
          cases takeNum os 8 0 0 rqn k1 with
          | error e => exact fun q _ d H4 b4 hd => q d H4 (same_but hxH S3 b4) hd
          | ok z =>
            obtain ⟨df, k2⟩ := z
            intro q bd2 v H4 b4 R4 hv
            cases hv
            dsimp only at q
            obtain ⟨d0, d9⟩ := bd2 df k2 rfl
            have S4 := same_but hxH S3 b4
            obtain ⟨bsn, hbs⟩ : ∃ n : Nat, (rqn : Int) - df = (n : Int) := ⟨((rqn : Int) - df).toNat, by omega⟩
            rw [hbs, Int.toNat_natCast, Int.toNat_natCast] at q
            refine ⟨_, _, rfl, rfl, ?_⟩
            refine ⟨by show 0 ≤ sizeLine; decide, fun ln hln => ?_⟩
            have hlnH : H ln = none := S4.free hln
            have hnl : ln ≠ x := by
              obtain ⟨dx4, e4⟩ := R4.ex
              exact Ne.symm (ne_of_none e4 hln)
            have haln : a ≠ ln := ne_of_none hs hlnH
            obtain ⟨TL, hTL⟩ : ∃ y, y = takeLines os rqn bsn 16 k2 := ⟨_, rfl⟩
            rw [← hTL] at q
            let W : Nat → L2.St → Hp → Prop := fun m σ H' => ∃ (k' : Nat) (xs : List V) (ls : List Ln), σ = [some (.ref a), some (.ref x), some (.int rqn), some (.int ((rqn : Int) - df)), some (.ref ln)] ∧ Rd K T.C_Reader H' x a os k' ∧ Same H H' ∧
              H' ln = some (.lst xs) ∧ LnsV K H' xs ls ∧ m = 16 - ls.length ∧ ls.length ≤ 16 ∧ TL = (takeLines os rqn bsn (16 - ls.length) k').map fun z => (ls ++ z.1, z.2)
            refine ⟨W, ⟨_, k2, [], [], rfl, R4.keep (Same.new hln), S4.put hlnH, upd_same, .nil, rfl, by decide, ?_⟩, ?_⟩
            · show TL = (takeLines os rqn bsn 16 k2).map fun z => ([] ++ z.1, z.2)
              rw [hTL]
              cases takeLines os rqn bsn 16 k2 <;> rfl
            rintro m σ H6 ⟨k', xs, ls, rfl, R6, S6, gln, gls, rfl, hle, hE⟩
            obtain ⟨dx6, e6⟩ := R6.ex
            have hll := gls.len
            refine ⟨_, rfl, x, dx6, _, rfl, e6, rfl, x, a, os, k', rfl, R6, ⟨_, rfl, ifb (fun h => ?_) (fun h => ?_)⟩⟩
            · have hk : k' ≠ os.length := fun z => by rw [decide_eq_true z] at h; cases h
              refine ⟨_, rfl, _, _, rfl, lenL (SqL.of gln), _, _, rfl, rfl, _, rfl, ifb (fun h => ?_) (fun h => ?_)⟩
              · have h16 : ls.length < 16 := by have : ((xs.length : Nat) : Int) < 16 := of_decide_eq_true h; omega
                refine ⟨fun σ' H' => W (16 - (ls.length + 1)) σ' H', fun σ' H' hW => ⟨_, by omega, hW⟩, ?_⟩
                have hn : 16 - ls.length = (16 - (ls.length + 1)) + 1 := by omega
                rw [hn, takeLines, if_neg hk] at hE
                refine ⟨_, rfl, .inl ⟨rfl, _, SqL.of gln⟩, _, rfl, _, rfl, _, rfl, x, a, os, k', rqn, bsn, by rw [← hbs]; rfl, R6, by omega, by omega, ?_⟩
                revert hE
                cases takeLine os rqn bsn k' with
                | error e =>
                  intro hE d H7 b7 hd
                  dsimp only at hE
                  rw [hE] at q
                  exact q d H7 (same_but hxH S6 b7) hd
                | ok z =>
                  obtain ⟨l, k3⟩ := z
                  intro hE v H7 b7 R7 hv
                  dsimp only at hE
                  have S7 := same_but hxH S6 b7
                  have gln7 : H7 ln = some (.lst xs) := b7 ln _ hnl gln
                  refine ⟨ln, _, _, rfl, rfl, gln7, by rw [sizeLine_eq]; omega, ?_⟩
                  have bl : But ln H7 (upd H7 ln (.lst (xs ++ [v]))) := But.set
                  obtain ⟨dx7, e7⟩ := R7.ex
                  have gls7 : LnsV K H7 xs ls := lns_but b7 (by rw [e6]; intro ys z; cases z) (by rw [e6]; intro o w z; cases z) gls
                  have app := lns_app hv gls7
                  have n1 : ∀ ys, H7 ln ≠ some (.tup ys) := by rw [gln7]; intro ys z; cases z
                  have n2 : ∀ o w, H7 ln ≠ some (.frz o w) := by rw [gln7]; intro o w z; cases z
                  refine ⟨k3, xs ++ [v], ls ++ [l], rfl, ⟨⟨dx7, bl _ _ (Ne.symm hnl) e7⟩, SqL.of (bl _ _ haln (S7 _ _ hs)), R7.ne, R7.lt, R7.len, R7.le⟩, S7.put hlnH, upd_same, lns_but bl n1 n2 app, by rw [List.length_append]; rfl, by rw [List.length_append]; show ls.length + 1 ≤ 16; omega, ?_⟩
                  rw [hE, List.length_append]
                  show _ = (takeLines os rqn bsn (16 - (ls.length + 1)) k3).map _
                  cases takeLines os rqn bsn (16 - (ls.length + 1)) k3 with
                  | error z => rfl
                  | ok z =>
                    show Except.ok (ls ++ (l :: z.1), z.2) = Except.ok ((ls ++ [l]) ++ z.1, z.2)
                    rw [List.append_assoc]
                    rfl
              · have h16 : ¬ ls.length < 16 := by have : ¬ ((xs.length : Nat) : Int) < 16 := of_decide_eq_false h; omega
                have hfin : TL = .ok (ls, k') := by
                  rw [hE, show 16 - ls.length = 0 by omega, takeLines]
                  show Except.ok (ls ++ [], k') = _
                  rw [List.append_nil]
                rw [hfin] at q
                have q2 : RdEnd T.C_NoOctets H Q E (rBlk K) (if k' = os.length then .ok ⟨rqn, bsn, ls⟩ else .error k') := q
                refine ⟨_, rfl, x, dx6, _, rfl, e6, rfl, x, a, os, k', rfl, R6, fun hne d H7 b7 hd => ?_, fun he => ?_⟩
                · rw [if_neg hne] at q2
                  exact q2 d H7 (same_but hxH S6 b7) hd
                · rw [if_pos he] at q2
                  refine ⟨_, rfl, _, rfl, _, rfl, ln, xs, rfl, .inl ⟨SqL.of gln, fun tl htl => ⟨by show 3 ≤ sizeLine; decide, fun p hp => ?_⟩⟩⟩
                  have sa : Same H6 (upd H6 tl (.tup xs)) := Same.new htl
                  have sb : Same (upd H6 tl (.tup xs)) (upd (upd H6 tl (.tup xs)) p (.tup [.int rqn, .int ((rqn : Int) - df), .ref tl])) := Same.new hp
                  refine q2 _ _ (S6.trans (sa.trans sb)) ⟨p, tl, xs, rfl, .inl (.inl ?_), .inl (.inl (sb _ _ upd_same)), gls.keep (sa.trans sb)⟩
                  rw [upd_same, hbs]
            · have hk : k' = os.length := Classical.byContradiction fun z => by rw [decide_eq_false z] at h; cases h
              have hfin : TL = .ok (ls, k') := by
                rw [hE]
                cases hc : 16 - ls.length with
                | zero =>
                  show Except.ok (ls ++ [], k') = _
                  rw [List.append_nil]
                | succ n =>
                  rw [takeLines, if_pos hk]
                  show Except.ok (ls ++ [], k') = _
                  rw [List.append_nil]
              rw [hfin] at q
              have q2 : RdEnd T.C_NoOctets H Q E (rBlk K) (if k' = os.length then .ok ⟨rqn, bsn, ls⟩ else .error k') := q
              refine ⟨_, rfl, x, dx6, _, rfl, e6, rfl, x, a, os, k', rfl, R6, fun hne d H7 b7 hd => ?_, fun he => ?_⟩
              · rw [if_neg hne] at q2
                exact q2 d H7 (same_but hxH S6 b7) hd
              · rw [if_pos he] at q2
                refine ⟨_, rfl, _, rfl, _, rfl, ln, xs, rfl, .inl ⟨SqL.of gln, fun tl htl => ⟨by show 3 ≤ sizeLine; decide, fun p hp => ?_⟩⟩⟩
                have sa : Same H6 (upd H6 tl (.tup xs)) := Same.new htl
                have sb : Same (upd H6 tl (.tup xs)) (upd (upd H6 tl (.tup xs)) p (.tup [.int rqn, .int ((rqn : Int) - df), .ref tl])) := Same.new hp
                refine q2 _ _ (S6.trans (sa.trans sb)) ⟨p, tl, xs, rfl, .inl (.inl ?_), .inl (.inl (sb _ _ upd_same)), gls.keep (sa.trans sb)⟩
                rw [upd_same, hbs]
      · rw [if_neg (by rw [h]; decide)] at q
        exact q H1 s1
    · exact ⟨_, rfl, _, rfl, .inr ⟨t, k, ht, fun H1 s1 => q H1 s1⟩⟩

theorem ok_law_draw_line (T : Txt K mg) : FnOk P w K mg base CX0 5 T.f_law_draw_line T.d_law_draw_line ["pen", "required"] sp_law_draw_line := by
  refine T.F_law_draw_line.ok sc_law_draw_line (fun vs H Q E h => ?_) (fun cdv A outer s H vs Q E hr h => ?_)
  · obtain ⟨p, c, n, req, rfl, _⟩ := h
    rfl
  · obtain ⟨p, c, n, req, rfl, hp, hn, hr9, q⟩ := h
    refine ⟨_, (pss_cons (ps_set (i := 2) sc_law_draw_line.nd rfl (Or.inl rfl) (pe_call (ok_law_one_of T) (hr.mono (by decide)) rfl T.g_law_one_of T.F_law_one_of.kp T.b_law_one_of .nil pass0 (pa_cons (pv 0) (pa_cons (pe_lst (pa_cons pe_str (pa_cons pe_str (pa_cons pe_str (pa_cons pe_str pa_nil))))) pa_nil))))
      (pss_cons (ps_if (PW.pt (pw_or (pt_cmpR op_eq (pv 2) pe_str (nomark _)) (pw_or1 (PW.pt (pw_and (pt_cmpR op_eq (pv 2) pe_str (nomark _)) (pw_and1 (pt_cmpR op_eq (pv 1) pe_int (nomark _)))))))) (pss_one (ps_ret (pe_tup (pa_cons pe_str (pa_cons (pe_call (ok_law_draw_text T) (hr.mono (by decide)) rfl T.g_law_draw_text T.F_law_draw_text.kp T.b_law_draw_text .nil pass0 (pa_cons (pv 0) (pa_cons pe_int (pa_cons pe_int pa_nil)))) (pa_cons (pe_call (ok_law_draw_text T) (hr.mono (by decide)) rfl T.g_law_draw_text T.F_law_draw_text.kp T.b_law_draw_text .nil pass0 (pa_cons (pv 0) (pa_cons pe_int (pa_cons pe_int pa_nil)))) pa_nil)))))) pss_nil)
      (pss_cons (ps_set (i := 3) sc_law_draw_line.nd rfl (Or.inl rfl) (pe_call (ok_law_draw_number T) (hr.mono (by decide)) rfl T.g_law_draw_number T.F_law_draw_number.kp T.b_law_draw_number .nil pass0 (pa_cons (pv 0) pa_nil)))
      (pss_cons (ps_if (pt_cmpR op_eq (pv 2) pe_str (nomark _)) (pss_one (ps_set (i := 3) sc_law_draw_line.nd rfl (Or.inl rfl) (pe_call (ok_law_one_of T) (hr.mono (by decide)) rfl T.g_law_one_of T.F_law_one_of.kp T.b_law_one_of .nil pass0 (pa_cons (pv 0) (pa_cons (pe_lst (pa_cons (pe_op op_mod (pv 3) (pv 1)) (pa_cons (pe_op op_sub (pv 1) pe_int) (pa_cons (pe_callB (call_max2 rfl) rfl T.z_max boot_max (pa_cons pe_int (pa_cons (pe_op op_sub (pe_op op_sub (pv 1) pe_int) (pe_call (ok_law_take T) (hr.mono (by decide)) rfl T.g_law_take T.F_law_take.kp T.b_law_take .nil pass0 (pa_cons (pv 0) (pa_cons pe_int pa_nil)))) pa_nil))) (pa_cons pe_int pa_nil))))) pa_nil))))) pss_nil)
      (pss_one (ps_ret (pe_ifExp (pt_cmpR op_eq (pe_call (ok_law_take T) (hr.mono (by decide)) rfl T.g_law_take T.F_law_take.kp T.b_law_take .nil pass0 (pa_cons (pv 0) (pa_cons pe_int pa_nil))) pe_int (nomark _)) (pe_tup (pa_cons (pv 2) (pa_cons (pv 3) pa_nil))) (pe_tup (pa_cons (pv 2) (pa_cons (pv 3) (pa_cons (pe_call (ok_law_draw_text T) (hr.mono (by decide)) rfl T.g_law_draw_text T.F_law_draw_text.kp T.b_law_draw_text .nil pass0 (pa_cons (pv 0) (pa_cons pe_int (pa_cons pe_int pa_nil)))) pa_nil))))))))))), ?_⟩
    refine ⟨_, rfl, by show 4 ≤ sizeLine; decide, fun l hl => ?_⟩
    refine ⟨p, c, l, n, _, rfl, hp.keep (Same.new hl), SqL.of upd_same, Ne.symm (hp.ne hl), by simp, by simp, by omega, fun x H2 hx d => ?_⟩
    have d1 : Drew p c H H2 (n + 1) := ⟨d.pen, (But.new hl).trans d.but⟩
    simp only [List.mem_cons, List.not_mem_nil, or_false] at hx
    rcases hx with h | h | h | h <;> subst h
    · refine ⟨_, rfl, rfl, _, rfl, ifF (by decide) ⟨_, rfl, rfl, _, rfl, ifF (by decide) (ifF rfl ?_)⟩⟩
      refine ⟨_, rfl, p, c, n + 1, rfl, d1.pen, by omega, fun z H3 hz d3 => ?_⟩
      refine ⟨_, rfl, rfl, _, rfl, ifF (by decide) ?_⟩
      refine ⟨_, rfl, p, c, n + 11, 2, rfl, (d1.trans d3).pen, by decide, by decide, by omega, fun rr H7 h0 h1 d7 => ⟨rfl, _, rfl, ifb (fun h => ?_) (fun h => ?_)⟩⟩
      · refine ⟨_, rfl, _, rfl, by show 2 ≤ sizeLine; decide, fun t ht => ?_⟩
        exact q t (.fix1 z) _ upd_same hz ((((d1.trans d3).trans d7).keep (Same.new ht)).mono (by omega))
      · refine ⟨_, rfl, _, rfl, _, rfl, p, c, n + 11 + 1, 0, 40, rfl, d7.pen, by omega, by decide, by decide, by decide, fun x H8 hx d8 => ?_⟩
        refine ⟨by show 3 ≤ sizeLine; decide, fun t ht => ?_⟩
        exact q t (.fix2 z x) _ upd_same ⟨hz, hx⟩ (((((d1.trans d3).trans d7).trans d8).keep (Same.new ht)).mono (by omega))
    · refine ⟨_, rfl, rfl, _, rfl, ifT (by decide) ?_⟩
      refine ⟨_, rfl, p, c, n + 1, 1, 20, rfl, d1.pen, by omega, by decide, by decide, by decide, fun y H3 hy d3 => ?_⟩
      refine ⟨_, rfl, p, c, n + 1 + 50, 0, 40, rfl, d3.pen, by omega, by decide, by decide, by decide, fun x H4 hx d4 => ?_⟩
      refine ⟨by show 3 ≤ sizeLine; decide, fun t ht => ?_⟩
      have dd := (d1.trans d3).trans d4
      exact q t (.out y x) _ upd_same ⟨hy, hx⟩ ((dd.keep (Same.new ht)).mono (by omega))
    · refine ⟨_, rfl, rfl, _, rfl, ifF (by decide) ⟨_, rfl, rfl, _, rfl, ifT (by decide) ⟨_, rfl, rfl, _, rfl, ifb (fun h0 => ?_) (fun h0 => ?_)⟩⟩⟩
      · refine ⟨_, rfl, p, c, n + 1, 1, 20, rfl, d1.pen, by omega, by decide, by decide, by decide, fun y H3 hy d3 => ?_⟩
        refine ⟨_, rfl, p, c, n + 1 + 50, 0, 40, rfl, d3.pen, by omega, by decide, by decide, by decide, fun x H4 hx d4 => ?_⟩
        refine ⟨by show 3 ≤ sizeLine; decide, fun t ht => ?_⟩
        have dd := (d1.trans d3).trans d4
        exact q t (.out y x) _ upd_same ⟨hy, hx⟩ ((dd.keep (Same.new ht)).mono (by omega))
      · have hr1 : 0 < req := by
          rcases Nat.eq_zero_or_pos req with z | z
          · subst z
            have h9 : decide (V.int ((0 : Nat) : Int) = V.int 0) = false := h0
            exact absurd h9 (by decide)
          · exact z
        refine ⟨_, rfl, p, c, n + 1, rfl, d1.pen, by omega, fun z H3 hz d3 => ?_⟩
        refine ⟨_, rfl, rfl, _, rfl, ifT (by decide) ?_⟩
        refine ⟨_, rfl, _, rfl, _, rfl, _, _, rfl, rfl, by omega, _, rfl, _, _, rfl, rfl, _, rfl, _, _, rfl, rfl, _, rfl, p, c, n + 11, 20, rfl, d3.pen, by decide, by decide, by omega, fun tk H4 htk0 htk1 d4 => ?_⟩
        refine ⟨_, _, rfl, rfl, _, _, rfl, by show 4 ≤ sizeLine; decide, fun l2 hl2 => ?_⟩
        have d34 := (d1.trans d3).trans d4
        refine ⟨p, c, l2, n + 11 + 1, _, rfl, d4.pen.keep (Same.new hl2), SqL.of upd_same, Ne.symm (d4.pen.ne hl2), by simp, by simp, by omega, fun x H5 hx d5 => ?_⟩
        have d5' : Drew p c H H5 (n + 13) := ⟨d5.pen, (d34.but.trans (But.new hl2)).trans d5.but⟩
        have hx' : ∃ zz : Nat, x = .int zz ∧ zz < req := by
          simp only [List.mem_cons, List.not_mem_nil, or_false] at hx
          rcases hx with h | h | h | h
          · refine ⟨((z : Int) % (req : Int)).toNat, ?_, ?_⟩
            · rw [h, Int.toNat_of_nonneg (Int.emod_nonneg _ (by omega))]
            · have := Int.emod_lt_of_pos (z : Int) (show (0 : Int) < req by omega)
              have := Int.emod_nonneg (z : Int) (show (req : Int) ≠ 0 by omega)
              omega
          · exact ⟨req - 1, by rw [h]; show V.int ((req : Int) - 1) = _; rw [show ((req : Int) - 1) = ((req - 1 : Nat) : Int) by omega], by omega⟩
          · refine ⟨(if (req : Int) - 1 - tk > 0 then (req : Int) - 1 - tk else 0).toNat, ?_, ?_⟩
            · rw [h, Int.toNat_of_nonneg (by split <;> omega)]
            · split <;> omega
          · exact ⟨0, h, hr1⟩
        obtain ⟨zz, rfl, hzz⟩ := hx'
        refine ⟨_, rfl, p, c, n + 13, 2, rfl, (d5').pen, by decide, by decide, by omega, fun rr H7 h0 h1 d7 => ⟨rfl, _, rfl, ifb (fun h => ?_) (fun h => ?_)⟩⟩
        · refine ⟨_, rfl, _, rfl, by show 2 ≤ sizeLine; decide, fun t ht => ?_⟩
          exact q t (.ent1 zz) _ upd_same hzz ((((d5').trans d7).keep (Same.new ht)).mono (by omega))
        · refine ⟨_, rfl, _, rfl, _, rfl, p, c, n + 13 + 1, 0, 40, rfl, d7.pen, by omega, by decide, by decide, by decide, fun x H8 hx d8 => ?_⟩
          refine ⟨by show 3 ≤ sizeLine; decide, fun t ht => ?_⟩
          exact q t (.ent2 zz x) _ upd_same ⟨hzz, hx⟩ (((((d5').trans d7).trans d8).keep (Same.new ht)).mono (by omega))
    · refine ⟨_, rfl, rfl, _, rfl, ifF (by decide) ⟨_, rfl, rfl, _, rfl, ifT (by decide) ⟨_, rfl, rfl, _, rfl, ifb (fun h0 => ?_) (fun h0 => ?_)⟩⟩⟩
      · refine ⟨_, rfl, p, c, n + 1, 1, 20, rfl, d1.pen, by omega, by decide, by decide, by decide, fun y H3 hy d3 => ?_⟩
        refine ⟨_, rfl, p, c, n + 1 + 50, 0, 40, rfl, d3.pen, by omega, by decide, by decide, by decide, fun x H4 hx d4 => ?_⟩
        refine ⟨by show 3 ≤ sizeLine; decide, fun t ht => ?_⟩
        have dd := (d1.trans d3).trans d4
        exact q t (.out y x) _ upd_same ⟨hy, hx⟩ ((dd.keep (Same.new ht)).mono (by omega))
      · have hr1 : 0 < req := by
          rcases Nat.eq_zero_or_pos req with z | z
          · subst z
            have h9 : decide (V.int ((0 : Nat) : Int) = V.int 0) = false := h0
            exact absurd h9 (by decide)
          · exact z
        refine ⟨_, rfl, p, c, n + 1, rfl, d1.pen, by omega, fun z H3 hz d3 => ?_⟩
        refine ⟨_, rfl, rfl, _, rfl, ifT (by decide) ?_⟩
        refine ⟨_, rfl, _, rfl, _, rfl, _, _, rfl, rfl, by omega, _, rfl, _, _, rfl, rfl, _, rfl, _, _, rfl, rfl, _, rfl, p, c, n + 11, 20, rfl, d3.pen, by decide, by decide, by omega, fun tk H4 htk0 htk1 d4 => ?_⟩
        refine ⟨_, _, rfl, rfl, _, _, rfl, by show 4 ≤ sizeLine; decide, fun l2 hl2 => ?_⟩
        have d34 := (d1.trans d3).trans d4
        refine ⟨p, c, l2, n + 11 + 1, _, rfl, d4.pen.keep (Same.new hl2), SqL.of upd_same, Ne.symm (d4.pen.ne hl2), by simp, by simp, by omega, fun x H5 hx d5 => ?_⟩
        have d5' : Drew p c H H5 (n + 13) := ⟨d5.pen, (d34.but.trans (But.new hl2)).trans d5.but⟩
        have hx' : ∃ zz : Nat, x = .int zz ∧ zz < req := by
          simp only [List.mem_cons, List.not_mem_nil, or_false] at hx
          rcases hx with h | h | h | h
          · refine ⟨((z : Int) % (req : Int)).toNat, ?_, ?_⟩
            · rw [h, Int.toNat_of_nonneg (Int.emod_nonneg _ (by omega))]
            · have := Int.emod_lt_of_pos (z : Int) (show (0 : Int) < req by omega)
              have := Int.emod_nonneg (z : Int) (show (req : Int) ≠ 0 by omega)
              omega
          · exact ⟨req - 1, by rw [h]; show V.int ((req : Int) - 1) = _; rw [show ((req : Int) - 1) = ((req - 1 : Nat) : Int) by omega], by omega⟩
          · refine ⟨(if (req : Int) - 1 - tk > 0 then (req : Int) - 1 - tk else 0).toNat, ?_, ?_⟩
            · rw [h, Int.toNat_of_nonneg (by split <;> omega)]
            · split <;> omega
          · exact ⟨0, h, hr1⟩
        obtain ⟨zz, rfl, hzz⟩ := hx'
        refine ⟨_, rfl, p, c, n + 13, 2, rfl, (d5').pen, by decide, by decide, by omega, fun rr H7 h0 h1 d7 => ⟨rfl, _, rfl, ifb (fun h => ?_) (fun h => ?_)⟩⟩
        · refine ⟨_, rfl, _, rfl, by show 2 ≤ sizeLine; decide, fun t ht => ?_⟩
          exact q t (.ent1 zz) _ upd_same hzz ((((d5').trans d7).keep (Same.new ht)).mono (by omega))
        · refine ⟨_, rfl, _, rfl, _, rfl, p, c, n + 13 + 1, 0, 40, rfl, d7.pen, by omega, by decide, by decide, by decide, fun x H8 hx d8 => ?_⟩
          refine ⟨by show 3 ≤ sizeLine; decide, fun t ht => ?_⟩
          exact q t (.ent2 zz x) _ upd_same ⟨hzz, hx⟩ (((((d5').trans d7).trans d8).keep (Same.new ht)).mono (by omega))

theorem ok_law_draw_block (T : Txt K mg) : FnOk P w K mg base CX0 6 T.f_law_draw_block T.d_law_draw_block ["pen"] (sp_law_draw_block K) := by
  refine T.F_law_draw_block.ok sc_law_draw_block (fun vs H Q E h => ?_) (fun cdv A outer s H vs Q E hr h => ?_)
  · obtain ⟨p, c, n, rfl, _⟩ := h
    rfl
  · obtain ⟨p, c, n, rfl, hp, hn, q⟩ := h
    refine ⟨_, (pss_cons (ps_set (i := 1) sc_law_draw_block.nd rfl (Or.inr rfl) (pe_call (ok_law_one_of T) (hr.mono (by decide)) rfl T.g_law_one_of T.F_law_one_of.kp T.b_law_one_of .nil pass0 (pa_cons (pv 0) (pa_cons (pe_lst (pa_cons pe_int (pa_cons pe_int (pa_cons pe_int (pa_cons (pe_call (ok_law_take T) (hr.mono (by decide)) rfl T.g_law_take T.F_law_take.kp T.b_law_take .nil pass0 (pa_cons (pv 0) (pa_cons pe_int pa_nil))) (pa_cons (pe_call (ok_law_draw_number T) (hr.mono (by decide)) rfl T.g_law_draw_number T.F_law_draw_number.kp T.b_law_draw_number .nil pass0 (pa_cons (pv 0) pa_nil)) pa_nil)))))) pa_nil))))
      (pss_cons (ps_set (i := 2) sc_law_draw_block.nd rfl (Or.inl rfl) (pe_call (ok_law_one_of T) (hr.mono (by decide)) rfl T.g_law_one_of T.F_law_one_of.kp T.b_law_one_of .nil pass0 (pa_cons (pv 0) (pa_cons (pe_lst (pa_cons pe_int (pa_cons (pv 1) (pa_cons (pe_op op_fdiv (pv 1) pe_int) (pa_cons (pe_call (ok_law_take T) (hr.mono (by decide)) rfl T.g_law_take T.F_law_take.kp T.b_law_take .nil pass0 (pa_cons (pv 0) (pa_cons (pe_op op_add (pv 1) pe_int) pa_nil))) pa_nil))))) pa_nil))))
      (pss_cons (ps_set (i := 3) sc_law_draw_block.nd rfl (Or.inl rfl) (pe_call (ok_law_one_of T) (hr.mono (by decide)) rfl T.g_law_one_of T.F_law_one_of.kp T.b_law_one_of .nil pass0 (pa_cons (pv 0) (pa_cons (pe_lst (pa_cons pe_int (pa_cons pe_int (pa_cons pe_int (pa_cons pe_int (pa_cons (pe_call (ok_law_take T) (hr.mono (by decide)) rfl T.g_law_take T.F_law_take.kp T.b_law_take .nil pass0 (pa_cons (pv 0) (pa_cons pe_int pa_nil))) (pa_cons pe_int pa_nil))))))) pa_nil))))
      (pss_one (ps_ret (pe_tup (pa_cons (pv 1) (pa_cons (pv 2) (pa_cons (pe_callTy call_tuple_of rfl T.z_tuple boot_tuple (pa_cons (pe_lc (own := [("again", 4)]) (g := (gName 4)) (tt := tYes)  rfl sc_law_draw_block.nd (pi_range1 rfl T.z_range (pa_cons (pv 3) pa_nil)) (blkOk_by (own := [("again", 4)]) (N := ["pen", "required", "base", "many", "again"]) (sc := defScope s_law_draw_block) (by decide +kernel)) (fun _ _ _ _ _ => (pg_name (i := 4) sc_law_draw_block.nd rfl (Or.inl rfl))) (fun _ _ _ _ _ => pts_nil) (fun _ _ _ _ _ => (pe_call (ok_law_draw_line T) (hr.mono (by decide)) rfl T.g_law_draw_line T.F_law_draw_line.kp T.b_law_draw_line .nil pass0 (pa_cons (pv 0) (pa_cons (pv 1) pa_nil))))) pa_nil)) pa_nil))))))))), ?_⟩
    -- required
    refine ⟨_, rfl, _, rfl, p, c, n, 40, rfl, hp, by decide, by decide, by omega, fun t1 H1 h10 h11 d1 => ?_⟩
    refine ⟨_, rfl, p, c, n + 1, rfl, d1.pen, by omega, fun z H2 hz d2 => ?_⟩
    refine ⟨by show 5 ≤ sizeLine; decide, fun l hl => ?_⟩
    have d12 := d1.trans d2
    refine ⟨p, c, l, n + 1 + 10, _, rfl, d2.pen.keep (Same.new hl), SqL.of upd_same, Ne.symm (d2.pen.ne hl), by simp, by simp, by omega, fun x H3 hx d3 => ?_⟩
    have d3' : Drew p c H H3 (n + 12) := ⟨d3.pen, (d12.but.trans (But.new hl)).trans d3.but⟩
    have hx' : ∃ rq : Nat, x = .int rq ∧ rq ≤ 9999 := by
      simp only [List.mem_cons, List.not_mem_nil, or_false] at hx
      rcases hx with h | h | h | h | h
      · exact ⟨0, h, by omega⟩
      · exact ⟨1, h, by omega⟩
      · exact ⟨2, h, by omega⟩
      · exact ⟨t1.toNat, by rw [h, Int.toNat_of_nonneg h10], by omega⟩
      · exact ⟨z, h, hz⟩
    obtain ⟨rq, rfl, hrq⟩ := hx'
    -- base
    refine ⟨_, rfl, _, rfl, _, rfl, _, _, rfl, rfl, ⟨by decide, by decide⟩, _, rfl, _, rfl, _, _, rfl, rfl, p, c, n + 12, _, rfl, d3'.pen, by omega, by omega, by omega, fun t2 H4 h20 h21 d4 => ?_⟩
    refine ⟨by show 4 ≤ sizeLine; decide, fun l2 hl2 => ?_⟩
    have d34 := d3'.trans d4
    refine ⟨p, c, l2, n + 12 + 1, _, rfl, d4.pen.keep (Same.new hl2), SqL.of upd_same, Ne.symm (d4.pen.ne hl2), by simp, by simp, by omega, fun x H5 hx d5 => ?_⟩
    have d5' : Drew p c H H5 (n + 14) := ⟨d5.pen, (d34.but.trans (But.new hl2)).trans d5.but⟩
    have hx' : ∃ bs : Nat, x = .int bs ∧ bs ≤ rq := by
      simp only [List.mem_cons, List.not_mem_nil, or_false] at hx
      rcases hx with h | h | h | h
      · exact ⟨0, h, by omega⟩
      · exact ⟨rq, h, by omega⟩
      · exact ⟨rq / 2, by rw [h]; rfl, by omega⟩
      · exact ⟨t2.toNat, by rw [h, Int.toNat_of_nonneg h20], by omega⟩
    obtain ⟨bs, rfl, hbs⟩ := hx'
    -- many
    refine ⟨_, rfl, _, rfl, p, c, n + 14, 17, rfl, d5'.pen, by decide, by decide, by omega, fun t3 H6 h30 h31 d6 => ?_⟩
    refine ⟨by show 6 ≤ sizeLine; decide, fun l3 hl3 => ?_⟩
    have d56 := d5'.trans d6
    refine ⟨p, c, l3, n + 14 + 1, _, rfl, d6.pen.keep (Same.new hl3), SqL.of upd_same, Ne.symm (d6.pen.ne hl3), by simp, by simp, by omega, fun x H7 hx d7 => ?_⟩
    have d7' : Drew p c H H7 (n + 16) := ⟨d7.pen, (d56.but.trans (But.new hl3)).trans d7.but⟩
    have hx' : ∃ mn : Nat, x = .int mn ∧ mn ≤ 16 := by
      simp only [List.mem_cons, List.not_mem_nil, or_false] at hx
      rcases hx with h | h | h | h | h | h
      · exact ⟨0, h, by omega⟩
      · exact ⟨1, h, by omega⟩
      · exact ⟨2, h, by omega⟩
      · exact ⟨3, h, by omega⟩
      · exact ⟨t3.toNat, by rw [h, Int.toNat_of_nonneg h30], by omega⟩
      · exact ⟨16, h, by omega⟩
    obtain ⟨mn, rfl, hmn⟩ := hx'
    -- the tuple of lines
    refine ⟨_, rfl, _, rfl, _, rfl, _, rfl, by omega, by omega, fun D hD => ?_⟩
    refine lc_gen walk_range (fun i ys H' => Drew p c H H' (n + 16 + 200 * i) ∧ ∃ ls : List Ln, LnsV K H' ys ls ∧ (∀ l ∈ ls, l.Ok rq) ∧ ls.length = i) (by omega) ?_ (fun _ _ _ _ => True.intro) ?_ ?_
    · exact ⟨⟨(d7'.pen.upd (d7'.pen.ne hD) (d7'.pen.nec hD)).mono (by omega), d7'.but.trans (But.new hD)⟩, [], .nil, fun _ z => (nomatch z), rfl⟩
    · rintro i ys x H' H'' Q' Z hi hl hDl ⟨dd, ls, hls, hok, hlen⟩ ⟨rfl, rfl⟩ q'
      rw [Int.toNat_natCast] at hi
      refine ⟨rfl, yesI ?_⟩
      refine ⟨_, rfl, _, rfl, p, c, n + 16 + 200 * i, rq, rfl, dd.pen, by omega, hrq, fun la ln H8 hln1 hln2 d8 => ?_⟩
      have npD : p ≠ D := d7'.pen.ne hD
      have ncD : c ≠ D := d7'.pen.nec hD
      have hD8 := d8.but D _ (Ne.symm npD) hDl
      obtain ⟨⟨pxs, hpx⟩, _⟩ := dd.pen.some
      have hls8 : LnsV K H8 ys ls := lns_but d8.but (by rw [hpx]; intro ys z; cases z) (by rw [hpx]; intro o w z; cases z) hls
      have app := lns_app (v := .ref la) ⟨la, rfl, .inl (.inl hln1)⟩ hls8
      refine q' _ H8 hD8 ⟨⟨(d8.pen.upd npD ncD).mono (by omega), ?_⟩, ls ++ [ln], lns_but But.set (by rw [hD8]; intro ys z; cases z) (by rw [hD8]; intro o w z; cases z) app, fun l hl => ?_, by rw [List.length_append, hlen]; rfl⟩
      · exact fun u v nu e => by
          have e2 := d8.but u v nu (dd.but u v nu e)
          by_cases huD : u = D
          · subst huD
            have := d7'.but u v nu e
            rw [hD] at this
            cases this
          · rw [upd_ne huD]; exact e2
      · rcases List.mem_append.mp hl with z | z
        · exact hok l z
        · rw [List.mem_singleton.mp z]; exact hln2
    · rintro ys H' hl hDl ⟨dd, ls, hls, hok, hlen⟩
      refine ⟨D, ys, rfl, .inl ⟨SqL.of hDl, fun tl htl => ⟨by show 3 ≤ sizeLine; decide, fun t ht => ?_⟩⟩⟩
      have sa : Same H' (upd H' tl (.tup ys)) := Same.new htl
      have sb : Same (upd H' tl (.tup ys)) (upd (upd H' tl (.tup ys)) t (.tup [.int rq, .int bs, .ref tl])) := Same.new ht
      rw [Int.toNat_natCast] at hlen
      exact q _ ⟨rq, bs, ls⟩ _ ⟨t, tl, ys, rfl, .inl (.inl upd_same), .inl (.inl (sb _ _ upd_same)), hls.keep (sa.trans sb)⟩ ⟨hrq, hbs, by show ls.length ≤ 16; omega, hok⟩ ((dd.keep (sa.trans sb)).mono (by rw [Int.toNat_natCast]; omega))

theorem ok_law_bent_octets (T : Txt K mg) : FnOk P w K mg base CX0 4 T.f_law_bent_octets T.d_law_bent_octets ["pen", "octets"] sp_law_bent_octets := by
  refine T.F_law_bent_octets.ok sc_law_bent_octets (fun vs H Q E h => ?_) (fun cdv A outer s H vs Q E hr h => ?_)
  · obtain ⟨p, c, n, a, os, rfl, _⟩ := h
    rfl
  · obtain ⟨p, c, n, a, os, rfl, nap, hp, ha, hlen, hos, hn, q⟩ := h
    refine ⟨_, (pss_cons (ps_par3 (i := 2) (j := 3) (l := 4) rfl sc_law_bent_octets.nd rfl rfl rfl (by decide) (by decide) (by decide) rfl rfl rfl (pa_cons (pe_callTy call_list_of rfl T.z_list boot_list (pa_cons (pv 1) pa_nil)) (pa_cons (pe_call (ok_law_take T) (hr.mono (by decide)) rfl T.g_law_take T.F_law_take.kp T.b_law_take .nil pass0 (pa_cons (pv 0) (pa_cons pe_int pa_nil))) (pa_cons (pe_call (ok_law_take T) (hr.mono (by decide)) rfl T.g_law_take T.F_law_take.kp T.b_law_take .nil pass0 (pa_cons (pv 0) (pa_cons (pe_op op_add (pe_callB call_len rfl T.z_len boot_len (pa_cons (pv 1) pa_nil)) pe_int) pa_nil))) pa_nil))) (by rfl))
      (pss_cons (ps_set (i := 5) sc_law_bent_octets.nd rfl (Or.inl rfl) (pe_call (ok_law_one_of T) (hr.mono (by decide)) rfl T.g_law_one_of T.F_law_one_of.kp T.b_law_one_of .nil pass0 (pa_cons (pv 0) (pa_cons (pe_lst (pa_cons pe_int (pa_cons pe_int (pa_cons pe_int (pa_cons pe_int (pa_cons pe_int (pa_cons pe_int (pa_cons pe_int (pa_cons pe_int (pa_cons pe_int (pa_cons pe_int (pa_cons pe_int (pa_cons pe_int (pa_cons pe_int (pa_cons (pe_call (ok_law_take T) (hr.mono (by decide)) rfl T.g_law_take T.F_law_take.kp T.b_law_take .nil pass0 (pa_cons (pv 0) (pa_cons pe_int pa_nil))) pa_nil))))))))))))))) pa_nil))))
      (pss_cons (ps_if (pt_cmpR op_eq (pv 3) pe_int (nomark _)) (pss_one (ps_ret (pe_slice sl_list (pv 2) po_none (po_some (pv 4))))) pss_nil)
      (pss_cons (ps_if (pt_cmpR op_eq (pv 3) pe_int (nomark _)) (pss_one (ps_expr (pe_bm PySem.F.plainAttrs_list PySem.F.slot_list_insert PySem.F.type_list_insert mt_insert (pv 2) (pa_cons (pv 4) (pa_cons (pv 5) pa_nil))))) (pss_one (ps_if (PW.pt (pw_and (pt_cmpR op_eq (pv 3) pe_int (nomark _)) (pw_and1 (pt_cmpR op_lt (pv 4) (pe_callB call_len rfl T.z_len boot_len (pa_cons (pv 2) pa_nil)) (nomark _))))) (pss_one (ps_asg (pv 5) (pg_sub (pv 2) (pv 4) set_list))) (pss_one (ps_if (PW.pt (pw_and (pt_cmpR op_eq (pv 3) pe_int (nomark _)) (pw_and1 (pt_cmpR op_lt (pv 4) (pe_callB call_len rfl T.z_len boot_len (pa_cons (pv 2) pa_nil)) (nomark _))))) (pss_one (ps_expr (pe_bm PySem.F.plainAttrs_list PySem.F.slot_list_pop PySem.F.type_list_pop mt_popAt (pv 2) (pa_cons (pv 4) pa_nil)))) (pss_one (ps_if (pt_cmpR op_eq (pv 3) pe_int (nomark _)) (pss_one (ps_set (i := 2) sc_law_bent_octets.nd rfl (Or.inl rfl) (pe_op op_cat (pv 2) (pe_op op_rep (pe_lst (pa_cons (pv 5) pa_nil)) (pe_op op_add pe_int (pe_call (ok_law_take T) (hr.mono (by decide)) rfl T.g_law_take T.F_law_take.kp T.b_law_take .nil pass0 (pa_cons (pv 0) (pa_cons pe_int pa_nil)))))))) (pss_one (ps_if (PW.pt (pw_and (pt_cmpR op_eq (pv 3) pe_int (nomark _)) (pw_and1 (pt_cmpR op_lt (pv 4) (pe_callB call_len rfl T.z_len boot_len (pa_cons (pv 2) pa_nil)) (nomark _))))) (pss_cons (ps_asg (pe_ifExp (pt_cmpR op_lt (pe_ix ix_list (pv 2) (pv 4) (fun _ _ => rfl)) pe_int (nomark _)) (pe_op op_add (pe_ix ix_list (pv 2) (pv 4) (fun _ _ => rfl)) pe_int) (pe_op op_sub (pe_ix ix_list (pv 2) (pv 4) (fun _ _ => rfl)) pe_int)) (pg_sub (pv 2) (pv 4) set_list))
      (pss_one (ps_expr (pe_bm PySem.F.plainAttrs_list PySem.F.slot_list_insert PySem.F.type_list_insert mt_insert (pv 2) (pa_cons (pe_op op_add (pv 4) pe_int) (pa_cons (pe_call (ok_law_one_of T) (hr.mono (by decide)) rfl T.g_law_one_of T.F_law_one_of.kp T.b_law_one_of .nil pass0 (pa_cons (pv 0) (pa_cons (pe_lst (pa_cons pe_int (pa_cons pe_int (pa_cons pe_int (pa_cons pe_int (pa_cons pe_int pa_nil)))))) pa_nil))) pa_nil)))))) (pss_one (ps_setLc (i := 2) (own := [("again", 6)]) (g := (gName 6)) (tt := tYes)  rfl sc_law_bent_octets.nd rfl rfl (sw_true rfl rfl rfl (by decide +kernel)) (pi_range1 rfl T.z_range (pa_cons (pe_call (ok_law_take T) (hr.mono (by decide)) rfl T.g_law_take T.F_law_take.kp T.b_law_take .nil pass0 (pa_cons (pv 0) (pa_cons pe_int pa_nil))) pa_nil)) (blkOk_by (own := [("again", 6)]) (N := ["pen", "octets", "found", "way", "spot", "odd", "again"]) (sc := defScope s_law_bent_octets) (by decide +kernel)) (fun _ _ _ _ _ => (pg_name (i := 6) sc_law_bent_octets.nd rfl (Or.inl rfl))) (fun _ _ _ _ _ => pts_nil) (fun _ _ _ _ _ => (pe_call (ok_law_take T) (hr.mono (by decide)) rfl T.g_law_take T.F_law_take.kp T.b_law_take .nil pass0 (pa_cons (pv 0) (pa_cons pe_int pa_nil)))))))))))))))
      (pss_one (ps_ret (pv 2))))))), ?_⟩
    refine ⟨_, rfl, a, _, rfl, .inl (SqL.of ha), fun f hf => ?_⟩
    have s0 : Same H (upd H f (.lst (os.map V.int))) := Same.new hf
    have npf := hp.ne hf
    have ncf := hp.nec hf
    refine ⟨_, rfl, p, c, n, 7, rfl, hp.keep s0, by decide, by decide, by omega, fun wy H1 hw0 hw1 d1 => ?_⟩
    have gf1 : H1 f = some (.lst (os.map V.int)) := d1.but f _ (Ne.symm npf) upd_same
    have ga1 := d1.but a _ nap (s0 _ _ ha)
    have D1 : Drew p c H H1 (n + 1) := Drew.pre s0 d1
    refine ⟨_, rfl, _, rfl, _, _, rfl, lenL (SqL.of ga1), _, _, rfl, rfl, p, c, n + 1, _, rfl, d1.pen, by omega, by rw [List.length_map]; omega, by omega, fun sp H2 hs0 hs1 d2 => ⟨_, _, _, rfl, ?_⟩⟩
    rw [List.length_map] at hs1
    have gf2 := d2.but f _ (Ne.symm npf) gf1
    have D2 := D1.trans d2
    refine ⟨_, rfl, _, rfl, p, c, n + 2, 256, rfl, d2.pen, by decide, by decide, by omega, fun o3 H3 ho0 ho1 d3 => ?_⟩
    refine ⟨by show 14 ≤ sizeLine; decide, fun l hl => ?_⟩
    have gf3 := d3.but f _ (Ne.symm npf) gf2
    have D3 := D2.trans d3
    refine ⟨p, c, l, n + 3, _, rfl, d3.pen.keep (Same.new hl), SqL.of upd_same, Ne.symm (d3.pen.ne hl), by simp, by simp, by omega, fun x H4 hx d4 => ?_⟩
    have hx' : ∃ o : Int, x = .int o ∧ (0 ≤ o ∧ o < 256) := by
      simp only [List.mem_cons, List.not_mem_nil, or_false] at hx
      rcases hx with h | h | h | h | h | h | h | h | h | h | h | h | h | h
      all_goals first | exact ⟨_, h, by decide, by decide⟩ | exact ⟨_, h, ho0, ho1⟩
    obtain ⟨od, rfl, hod⟩ := hx'
    have gf4 : H4 f = some (.lst (os.map V.int)) := d4.but f _ (Ne.symm npf) (Same.new hl _ _ gf3)
    have D4 : Drew p c H H4 (n + 4) := D3.trans (Drew.pre (Same.new hl) d4)
    obtain ⟨k, rfl⟩ : ∃ k : Nat, sp = (k : Int) := ⟨sp.toNat, by omega⟩
    have hk : k ≤ os.length := by omega
    have put : ∀ (xs : List V), Drew p c H (upd H4 f (.lst xs)) (n + 4) := fun xs => ⟨D4.pen.upd npf ncf, D4.but.put hf⟩
    have lenF : LenV K (.ref f) H4 os.length := by have := lenL (K := K) (SqL.of gf4); rw [List.length_map] at this; exact this
    have free5 : ∀ (H5 : Hp) (m : Nat), Drew p c H H5 m → ∀ b, H5 b = none → H b = none := by
      intro H5 m D5 b hb
      cases e : H b with
      | none => rfl
      | some o =>
        by_cases z : b = p
        · subst z
          obtain ⟨⟨ys, hy⟩, _⟩ := D5.pen.some
          rw [hy] at hb; cases hb
        · rw [D5.but b o z e] at hb; cases hb
    have seven : wy = 0 ∨ wy = 1 ∨ wy = 2 ∨ wy = 3 ∨ wy = 4 ∨ wy = 5 ∨ wy = 6 := by omega
    rcases seven with h | h | h | h | h | h | h <;> subst h
    · refine ⟨_, rfl, rfl, _, rfl, ifT (by decide) ?_⟩
      refine ⟨_, rfl, _, rfl, _, rfl, f, _, rfl, SqL.of gf4, fun b hb => ?_⟩
      refine q b (os.take k) _ (free5 _ _ D4 b hb) ?_ (by rw [List.length_take]; omega) (octs_take hos k) ((D4.keep (Same.new hb)).mono (by omega))
      rw [upd_same, cut_to, List.map_take]
    · refine ⟨_, rfl, rfl, _, rfl, ifF (by decide) ?_⟩
      refine ⟨_, rfl, rfl, _, rfl, ifT (by decide) ?_⟩
      refine ⟨_, rfl, .inl ⟨rfl, _, SqL.of gf4⟩, _, rfl, _, rfl, f, _, _, _, rfl, rfl, gf4, by rw [List.length_map, sizeLine_eq]; omega, by omega, by omega, ?_⟩
      refine ⟨_, rfl, q f (os.take k ++ [od] ++ os.drop k) _ hf ?_ ?_ (octs_app (octs_app (octs_take hos k) (octs_one hod)) (octs_drop hos k)) ((put _).mono (by omega))⟩
      · rw [upd_same, Int.toNat_natCast, List.map_append, List.map_append, List.map_take, List.map_drop]
        rfl
      · rw [List.length_append, List.length_append, List.length_take, List.length_drop, List.length_singleton]; omega
    · refine ⟨_, rfl, rfl, _, rfl, ifF (by decide) ?_⟩
      refine ⟨_, rfl, rfl, _, rfl, ifF (by decide) ?_⟩
      refine ⟨_, rfl, rfl, _, rfl, ifT (by decide) ⟨_, rfl, _, rfl, _, _, rfl, lenF, _, _, rfl, rfl, _, rfl, ifb (fun h2 => ?_) (fun h2 => ?_)⟩⟩
      · have hlt : k < os.length := by have : (k : Int) < (os.length : Int) := of_decide_eq_true h2; omega
        have hget : os[k]? = some os[k] := List.getElem?_eq_getElem hlt
        have hgo := hos os[k] (List.getElem_mem hlt)
        refine ⟨_, rfl, _, rfl, _, rfl, f, _, _, k, rfl, rfl, gf4, Evl.ixN_nat (by rw [List.length_map]; exact hlt), ?_⟩
        · refine ⟨_, rfl, q f (os.set k od) _ hf ?_ (by rw [List.length_set]; omega) (octs_set hos hod) ((put _).mono (by omega))⟩
          rw [upd_same, List.map_set]
      · refine ⟨_, rfl, rfl, _, rfl, ifF (by decide) (ifF rfl ?_)⟩
        refine ⟨_, rfl, rfl, _, rfl, ifF (by decide) ?_⟩
        refine ⟨_, rfl, rfl, _, rfl, ifF (by decide) (ifF rfl ?_)⟩
        refine ⟨_, rfl, p, c, n + 4, 9, rfl, D4.pen, by decide, by decide, by omega, fun m H5 hm0 hm1 d5 => ?_⟩
        have D5 := D4.trans d5
        refine ⟨_, rfl, by omega, by omega, fun D hD => ?_⟩
        have hDH : H D = none := free5 H5 _ D5 D hD
        refine lc_gen walk_range (fun i ys H' => Drew p c H H' (n + 5 + i) ∧ ∃ bs : List Int, ys = bs.map V.int ∧ Octs bs ∧ bs.length = i) (by omega) ?_ (fun _ _ _ _ => True.intro) ?_ ?_
        · exact ⟨⟨(D5.pen.upd (D5.pen.ne hD) (D5.pen.nec hD)).mono (by omega), D5.but.put hDH⟩, [], rfl, fun _ z => (nomatch z), rfl⟩
        · rintro i ys x H' H'' Q' Z hi hl hDl ⟨dd, bs, rfl, hb, hbl⟩ ⟨rfl, rfl⟩ q'
          refine ⟨rfl, yesI ?_⟩
          refine ⟨_, rfl, p, c, n + 5 + i, 256, rfl, dd.pen, by decide, by decide, by omega, fun r6 H6 h60 h61 d6 => ?_⟩
          have npD : p ≠ D := D5.pen.ne hD
          have ncD : c ≠ D := D5.pen.nec hD
          refine q' _ H6 (d6.but D _ (Ne.symm npD) hDl) ⟨⟨(d6.pen.upd npD ncD).mono (by omega), (dd.but.trans d6.but).put hDH⟩, bs ++ [r6], ?_, octs_app hb (octs_one ⟨h60, h61⟩), by rw [List.length_append, hbl]; rfl⟩
          rw [List.map_append]; rfl
        · rintro ys H' hl hDl ⟨dd, bs, rfl, hb, hbl⟩
          exact ⟨_, rfl, q D bs H' hDH hDl (by omega) hb (dd.mono (by omega))⟩
    · refine ⟨_, rfl, rfl, _, rfl, ifF (by decide) ?_⟩
      refine ⟨_, rfl, rfl, _, rfl, ifF (by decide) ?_⟩
      refine ⟨_, rfl, rfl, _, rfl, ifF (by decide) (ifF rfl ?_)⟩
      refine ⟨_, rfl, rfl, _, rfl, ifT (by decide) ⟨_, rfl, _, rfl, _, _, rfl, lenF, _, _, rfl, rfl, _, rfl, ifb (fun h2 => ?_) (fun h2 => ?_)⟩⟩
      · have hlt : k < os.length := by have : (k : Int) < (os.length : Int) := of_decide_eq_true h2; omega
        have hget : os[k]? = some os[k] := List.getElem?_eq_getElem hlt
        have hgo := hos os[k] (List.getElem_mem hlt)
        refine ⟨_, rfl, .inl ⟨rfl, _, SqL.of gf4⟩, _, rfl, f, _, _, k, .int os[k], rfl, rfl, gf4, by omega, by omega, (ixN_seq (Evl.ixN_nat (by rw [List.length_map]; exact hlt))).1, by rw [List.getElem?_map, hget]; rfl, ?_⟩
        · refine ⟨_, rfl, q f (os.eraseIdx k) _ hf ?_ ?_ (octs_erase hos) ((put _).mono (by omega))⟩
          · rw [upd_same, map_erase]
          · have := List.length_eraseIdx_le os k
            omega
      · refine ⟨_, rfl, rfl, _, rfl, ifF (by decide) ?_⟩
        refine ⟨_, rfl, rfl, _, rfl, ifF (by decide) (ifF rfl ?_)⟩
        refine ⟨_, rfl, p, c, n + 4, 9, rfl, D4.pen, by decide, by decide, by omega, fun m H5 hm0 hm1 d5 => ?_⟩
        have D5 := D4.trans d5
        refine ⟨_, rfl, by omega, by omega, fun D hD => ?_⟩
        have hDH : H D = none := free5 H5 _ D5 D hD
        refine lc_gen walk_range (fun i ys H' => Drew p c H H' (n + 5 + i) ∧ ∃ bs : List Int, ys = bs.map V.int ∧ Octs bs ∧ bs.length = i) (by omega) ?_ (fun _ _ _ _ => True.intro) ?_ ?_
        · exact ⟨⟨(D5.pen.upd (D5.pen.ne hD) (D5.pen.nec hD)).mono (by omega), D5.but.put hDH⟩, [], rfl, fun _ z => (nomatch z), rfl⟩
        · rintro i ys x H' H'' Q' Z hi hl hDl ⟨dd, bs, rfl, hb, hbl⟩ ⟨rfl, rfl⟩ q'
          refine ⟨rfl, yesI ?_⟩
          refine ⟨_, rfl, p, c, n + 5 + i, 256, rfl, dd.pen, by decide, by decide, by omega, fun r6 H6 h60 h61 d6 => ?_⟩
          have npD : p ≠ D := D5.pen.ne hD
          have ncD : c ≠ D := D5.pen.nec hD
          refine q' _ H6 (d6.but D _ (Ne.symm npD) hDl) ⟨⟨(d6.pen.upd npD ncD).mono (by omega), (dd.but.trans d6.but).put hDH⟩, bs ++ [r6], ?_, octs_app hb (octs_one ⟨h60, h61⟩), by rw [List.length_append, hbl]; rfl⟩
          rw [List.map_append]; rfl
        · rintro ys H' hl hDl ⟨dd, bs, rfl, hb, hbl⟩
          exact ⟨_, rfl, q D bs H' hDH hDl (by omega) hb (dd.mono (by omega))⟩
    · refine ⟨_, rfl, rfl, _, rfl, ifF (by decide) ?_⟩
      refine ⟨_, rfl, rfl, _, rfl, ifF (by decide) ?_⟩
      refine ⟨_, rfl, rfl, _, rfl, ifF (by decide) (ifF rfl ?_)⟩
      refine ⟨_, rfl, rfl, _, rfl, ifF (by decide) (ifF rfl ?_)⟩
      refine ⟨_, rfl, rfl, _, rfl, ifT (by decide) ?_⟩
      refine ⟨_, rfl, _, rfl, by show 1 ≤ sizeLine; decide, fun l4 hl4 => ?_⟩
      have s4 : Same H4 (upd H4 l4 (.lst [.int od])) := Same.new hl4
      refine ⟨_, rfl, p, c, n + 4, 3, rfl, D4.pen.keep s4, by decide, by decide, by omega, fun m H5 hm0 hm1 d5 => ?_⟩
      have D5 := D4.trans (Drew.pre s4 d5)
      have npl : l4 ≠ p := Ne.symm (D4.pen.ne hl4)
      have gl5 := d5.but l4 _ npl upd_same
      have gf5 := d5.but f _ (Ne.symm npf) (s4 _ _ gf4)
      obtain ⟨mm, hmm⟩ : ∃ mm : Nat, (1 : Int) + m = (mm : Int) := ⟨(1 + m).toNat, by omega⟩
      refine ⟨_, _, rfl, rfl, l4, _, _, rfl, rfl, gl5, by omega, by omega, ?_, fun l6 hl6 => ?_⟩
      · show 1 * ((1 : Int) + m).toNat ≤ sizeLine
        rw [sizeLine_eq]; omega
      have e6 : (List.replicate ((1 : Int) + m).toNat [V.int od]).flatten = (List.replicate mm od).map V.int := by
        rw [hmm, Int.toNat_natCast]
        clear hmm
        induction mm with
        | zero => rfl
        | succ j ih => rw [List.replicate_succ, List.flatten_cons, ih, List.replicate_succ, List.map_cons]; rfl
      rw [e6]
      have s6 : Same H5 (upd H5 l6 (.lst ((List.replicate mm od).map V.int))) := Same.new hl6
      have h6 := free5 _ _ (D5.keep s6)
      refine ⟨f, l6, _, _, rfl, rfl, s6 _ _ gf5, upd_same, by rw [List.length_map, List.length_map, List.length_replicate, sizeLine_eq]; omega, fun l7 hl7 => ?_⟩
      refine ⟨_, rfl, q l7 (os ++ List.replicate mm od) _ (h6 l7 hl7) ?_ (by rw [List.length_append, List.length_replicate]; omega) (octs_app hos fun x hx => by rw [(List.mem_replicate.mp hx).2]; exact hod) (((D5.keep s6).keep (Same.new hl7)).mono (by omega))⟩
      rw [upd_same, List.map_append]
    · refine ⟨_, rfl, rfl, _, rfl, ifF (by decide) ?_⟩
      refine ⟨_, rfl, rfl, _, rfl, ifF (by decide) ?_⟩
      refine ⟨_, rfl, rfl, _, rfl, ifF (by decide) (ifF rfl ?_)⟩
      refine ⟨_, rfl, rfl, _, rfl, ifF (by decide) (ifF rfl ?_)⟩
      refine ⟨_, rfl, rfl, _, rfl, ifF (by decide) ?_⟩
      refine ⟨_, rfl, rfl, _, rfl, ifT (by decide) ⟨_, rfl, _, rfl, _, _, rfl, lenF, _, _, rfl, rfl, _, rfl, ifb (fun h2 => ?_) (fun h2 => ?_)⟩⟩
      · have hlt : k < os.length := by have : (k : Int) < (os.length : Int) := of_decide_eq_true h2; omega
        have hget : os[k]? = some os[k] := List.getElem?_eq_getElem hlt
        have hgo := hos os[k] (List.getElem_mem hlt)
        refine ⟨_, rfl, _, rfl, f, _, _, _, rfl, rfl, SqL.of gf4, at_ofN rfl (by rw [List.getElem?_map, hget]; rfl), _, _, rfl, rfl, _, rfl, ifb (fun h3 => ?_) (fun h3 => ?_)⟩
        · have h3' : os[k] < 128 := of_decide_eq_true h3
          have hz : 0 ≤ os[k] + 128 ∧ os[k] + 128 < 256 := by omega
          refine ⟨_, rfl, _, rfl, f, _, _, _, rfl, rfl, SqL.of gf4, at_ofN rfl (by rw [List.getElem?_map, hget]; rfl), _, _, rfl, rfl, ?_⟩
          refine ⟨_, rfl, _, rfl, f, _, _, k, rfl, rfl, gf4, Evl.ixN_nat (by rw [List.length_map]; exact hlt), ?_⟩
          have P5 := (put ((os.map V.int).set k (.int (os[k] + 128))))
          have gf5 : (upd H4 f (.lst ((os.map V.int).set k (.int (os[k] + 128))))) f = some (.lst ((os.set k (os[k] + 128)).map V.int)) := by rw [upd_same, List.map_set]
          refine ⟨_, rfl, .inl ⟨rfl, _, SqL.of gf5⟩, _, rfl, _, _, rfl, rfl, _, rfl, by show 5 ≤ sizeLine; decide, fun l5 hl5 => ?_⟩
          refine ⟨p, c, l5, n + 4, _, rfl, P5.pen.keep (Same.new hl5), SqL.of upd_same, Ne.symm (P5.pen.ne hl5), by simp, by simp, by omega, fun x H7 hx d7 => ?_⟩
          have hx' : ∃ o : Int, x = .int o ∧ (0 ≤ o ∧ o < 256) := by
            simp only [List.mem_cons, List.not_mem_nil, or_false] at hx
            rcases hx with h | h | h | h | h
            all_goals exact ⟨_, h, by decide, by decide⟩
          obtain ⟨oe, rfl, hoe⟩ := hx'
          have gf7 := d7.but f _ (Ne.symm npf) (Same.new hl5 _ _ gf5)
          have D7 : Drew p c H H7 (n + 5) := P5.trans (Drew.pre (Same.new hl5) d7)
          refine ⟨f, _, _, _, rfl, rfl, gf7, by rw [List.length_map, List.length_set, sizeLine_eq]; omega, by omega, by omega, ?_⟩
          have hz2 := octs_set (k := k) hos hz
          refine ⟨_, rfl, q f ((os.set k (os[k] + 128)).take (k + 1) ++ [oe] ++ (os.set k (os[k] + 128)).drop (k + 1)) _ hf ?_ ?_ (octs_app (octs_app (octs_take hz2 _) (octs_one hoe)) (octs_drop hz2 _)) ((⟨D7.pen.upd npf ncf, D7.but.put hf⟩ : Drew p c H _ (n + 5)).mono (by omega))⟩
          · rw [upd_same, show ((k : Int) + 1).toNat = k + 1 by omega, List.map_append, List.map_append, List.map_take, List.map_drop]
            rfl
          · rw [List.length_append, List.length_append, List.length_take, List.length_drop, List.length_singleton, List.length_set]; omega
        · have h3' : ¬ os[k] < 128 := of_decide_eq_false h3
          have hz : 0 ≤ os[k] - 128 ∧ os[k] - 128 < 256 := by omega
          refine ⟨_, rfl, _, rfl, f, _, _, _, rfl, rfl, SqL.of gf4, at_ofN rfl (by rw [List.getElem?_map, hget]; rfl), _, _, rfl, rfl, ?_⟩
          refine ⟨_, rfl, _, rfl, f, _, _, k, rfl, rfl, gf4, Evl.ixN_nat (by rw [List.length_map]; exact hlt), ?_⟩
          have P5 := (put ((os.map V.int).set k (.int (os[k] - 128))))
          have gf5 : (upd H4 f (.lst ((os.map V.int).set k (.int (os[k] - 128))))) f = some (.lst ((os.set k (os[k] - 128)).map V.int)) := by rw [upd_same, List.map_set]
          refine ⟨_, rfl, .inl ⟨rfl, _, SqL.of gf5⟩, _, rfl, _, _, rfl, rfl, _, rfl, by show 5 ≤ sizeLine; decide, fun l5 hl5 => ?_⟩
          refine ⟨p, c, l5, n + 4, _, rfl, P5.pen.keep (Same.new hl5), SqL.of upd_same, Ne.symm (P5.pen.ne hl5), by simp, by simp, by omega, fun x H7 hx d7 => ?_⟩
          have hx' : ∃ o : Int, x = .int o ∧ (0 ≤ o ∧ o < 256) := by
            simp only [List.mem_cons, List.not_mem_nil, or_false] at hx
            rcases hx with h | h | h | h | h
            all_goals exact ⟨_, h, by decide, by decide⟩
          obtain ⟨oe, rfl, hoe⟩ := hx'
          have gf7 := d7.but f _ (Ne.symm npf) (Same.new hl5 _ _ gf5)
          have D7 : Drew p c H H7 (n + 5) := P5.trans (Drew.pre (Same.new hl5) d7)
          refine ⟨f, _, _, _, rfl, rfl, gf7, by rw [List.length_map, List.length_set, sizeLine_eq]; omega, by omega, by omega, ?_⟩
          have hz2 := octs_set (k := k) hos hz
          refine ⟨_, rfl, q f ((os.set k (os[k] - 128)).take (k + 1) ++ [oe] ++ (os.set k (os[k] - 128)).drop (k + 1)) _ hf ?_ ?_ (octs_app (octs_app (octs_take hz2 _) (octs_one hoe)) (octs_drop hz2 _)) ((⟨D7.pen.upd npf ncf, D7.but.put hf⟩ : Drew p c H _ (n + 5)).mono (by omega))⟩
          · rw [upd_same, show ((k : Int) + 1).toNat = k + 1 by omega, List.map_append, List.map_append, List.map_take, List.map_drop]
            rfl
          · rw [List.length_append, List.length_append, List.length_take, List.length_drop, List.length_singleton, List.length_set]; omega
      · refine ⟨_, rfl, p, c, n + 4, 9, rfl, D4.pen, by decide, by decide, by omega, fun m H5 hm0 hm1 d5 => ?_⟩
        have D5 := D4.trans d5
        refine ⟨_, rfl, by omega, by omega, fun D hD => ?_⟩
        have hDH : H D = none := free5 H5 _ D5 D hD
        refine lc_gen walk_range (fun i ys H' => Drew p c H H' (n + 5 + i) ∧ ∃ bs : List Int, ys = bs.map V.int ∧ Octs bs ∧ bs.length = i) (by omega) ?_ (fun _ _ _ _ => True.intro) ?_ ?_
        · exact ⟨⟨(D5.pen.upd (D5.pen.ne hD) (D5.pen.nec hD)).mono (by omega), D5.but.put hDH⟩, [], rfl, fun _ z => (nomatch z), rfl⟩
        · rintro i ys x H' H'' Q' Z hi hl hDl ⟨dd, bs, rfl, hb, hbl⟩ ⟨rfl, rfl⟩ q'
          refine ⟨rfl, yesI ?_⟩
          refine ⟨_, rfl, p, c, n + 5 + i, 256, rfl, dd.pen, by decide, by decide, by omega, fun r6 H6 h60 h61 d6 => ?_⟩
          have npD : p ≠ D := D5.pen.ne hD
          have ncD : c ≠ D := D5.pen.nec hD
          refine q' _ H6 (d6.but D _ (Ne.symm npD) hDl) ⟨⟨(d6.pen.upd npD ncD).mono (by omega), (dd.but.trans d6.but).put hDH⟩, bs ++ [r6], ?_, octs_app hb (octs_one ⟨h60, h61⟩), by rw [List.length_append, hbl]; rfl⟩
          rw [List.map_append]; rfl
        · rintro ys H' hl hDl ⟨dd, bs, rfl, hb, hbl⟩
          exact ⟨_, rfl, q D bs H' hDH hDl (by omega) hb (dd.mono (by omega))⟩
    · refine ⟨_, rfl, rfl, _, rfl, ifF (by decide) ?_⟩
      refine ⟨_, rfl, rfl, _, rfl, ifF (by decide) ?_⟩
      refine ⟨_, rfl, rfl, _, rfl, ifF (by decide) (ifF rfl ?_)⟩
      refine ⟨_, rfl, rfl, _, rfl, ifF (by decide) (ifF rfl ?_)⟩
      refine ⟨_, rfl, rfl, _, rfl, ifF (by decide) ?_⟩
      refine ⟨_, rfl, rfl, _, rfl, ifF (by decide) (ifF rfl ?_)⟩
      refine ⟨_, rfl, p, c, n + 4, 9, rfl, D4.pen, by decide, by decide, by omega, fun m H5 hm0 hm1 d5 => ?_⟩
      have D5 := D4.trans d5
      refine ⟨_, rfl, by omega, by omega, fun D hD => ?_⟩
      have hDH : H D = none := free5 H5 _ D5 D hD
      refine lc_gen walk_range (fun i ys H' => Drew p c H H' (n + 5 + i) ∧ ∃ bs : List Int, ys = bs.map V.int ∧ Octs bs ∧ bs.length = i) (by omega) ?_ (fun _ _ _ _ => True.intro) ?_ ?_
      · exact ⟨⟨(D5.pen.upd (D5.pen.ne hD) (D5.pen.nec hD)).mono (by omega), D5.but.put hDH⟩, [], rfl, fun _ z => (nomatch z), rfl⟩
      · rintro i ys x H' H'' Q' Z hi hl hDl ⟨dd, bs, rfl, hb, hbl⟩ ⟨rfl, rfl⟩ q'
        refine ⟨rfl, yesI ?_⟩
        refine ⟨_, rfl, p, c, n + 5 + i, 256, rfl, dd.pen, by decide, by decide, by omega, fun r6 H6 h60 h61 d6 => ?_⟩
        have npD : p ≠ D := D5.pen.ne hD
        have ncD : c ≠ D := D5.pen.nec hD
        refine q' _ H6 (d6.but D _ (Ne.symm npD) hDl) ⟨⟨(d6.pen.upd npD ncD).mono (by omega), (dd.but.trans d6.but).put hDH⟩, bs ++ [r6], ?_, octs_app hb (octs_one ⟨h60, h61⟩), by rw [List.length_append, hbl]; rfl⟩
        rw [List.map_append]; rfl
      · rintro ys H' hl hDl ⟨dd, bs, rfl, hb, hbl⟩
        exact ⟨_, rfl, q D bs H' hDH hDl (by omega) hb (dd.mono (by omega))⟩

theorem ok_law_write (T : Txt K mg) : FnOk P w K mg base CX0 8 T.f_law_write T.d_law_write ["way", "thing"] (sp_law_write K) := by
  refine T.F_law_write.ok sc_law_write (fun vs H Q E h => ?_) (fun cdv A outer s H vs Q E hr h => ?_)
  · obtain ⟨v, t, rfl, _⟩ := h
    rfl
  · obtain ⟨v, t, rfl, hv, ok, q⟩ := h
    refine ⟨_, (pss_cons (ps_if (pt_cmpR op_eq (pv 0) pe_int (nomark _)) (pss_one (ps_ret (pe_call (ok_write_instruction T) (hr.mono (by decide)) rfl T.g_write_instruction T.F_write_instruction.kp T.b_write_instruction .nil pass0 (pa_cons (pv 1) pa_nil)))) pss_nil)
      (pss_one (ps_ret (pe_ifExp (pt_cmpR op_eq (pv 0) pe_int (nomark _)) (pe_call (ok_write_answer T) (hr.mono (by decide)) rfl T.g_write_answer T.F_write_answer.kp T.b_write_answer .nil pass0 (pa_cons (pv 1) pa_nil)) (pe_call (ok_write_block T) (hr.mono (by decide)) rfl T.g_write_block T.F_write_block.kp T.b_write_block .nil pass0 (pa_cons (pv 1) pa_nil)))))), ?_⟩
    have e00 : decide (V.int ((0 : Nat) : Int) = V.int 0) = true := by decide
    have e10 : decide (V.int ((1 : Nat) : Int) = V.int 0) = false := by decide
    have e11 : decide (V.int ((1 : Nat) : Int) = V.int 1) = true := by decide
    have e20 : decide (V.int ((2 : Nat) : Int) = V.int 0) = false := by decide
    have e21 : decide (V.int ((2 : Nat) : Int) = V.int 1) = false := by decide
    cases t with
    | ins i =>
      refine ⟨_, rfl, rfl, _, rfl, ifT e00 ?_⟩
      exact ⟨_, rfl, v, i, rfl, hv, ok, q⟩
    | ans i =>
      refine ⟨_, rfl, rfl, _, rfl, ifF e10 ?_⟩
      exact ⟨_, rfl, rfl, _, rfl, ifT e11 ⟨_, rfl, v, i, rfl, hv, ok, q⟩⟩
    | blk b =>
      refine ⟨_, rfl, rfl, _, rfl, ifF e20 ?_⟩
      exact ⟨_, rfl, rfl, _, rfl, ifF e21 ⟨_, rfl, v, b, rfl, hv, ok, q⟩⟩
theorem ok_law_read (T : Txt K mg) : FnOk P w K mg base CX0 11 T.f_law_read T.d_law_read ["way", "octets"] (sp_law_read K) := by
  refine T.F_law_read.ok sc_law_read (fun vs H Q E h => ?_) (fun cdv A outer s H vs Q E hr h => ?_)
  · obtain ⟨w0, a, os, rfl, _⟩ := h
    rfl
  · obtain ⟨w0, a, os, rfl, hw, ha, hl, hos, qe, qo⟩ := h
    refine ⟨_, (pss_one (ps_try_only rfl rfl ⟨rfl, rfl, .inl T.E_NoOctets.g⟩ takes0 (fun W pn xe tk hp =>
        (pss_cons (ps_if (pt_cmpR op_eq (pv 0) pe_int (nomark _)) (pss_one (ps_ret (pe_tup (pa_cons (pe_call (ok_read_instruction T) (hr.mono (by decide)) rfl T.g_read_instruction T.F_read_instruction.kp T.b_read_instruction .nil (passes_call (E := fun cls d H => ∀ σ, W cls d σ H) tk (fun _ _ σ _ h => h σ)) (pa_cons (pv 1) pa_nil)) pa_nil)))) pss_nil)
      (pss_one (ps_ret (pe_ifExp (pt_cmpR op_eq (pv 0) pe_int (nomark _)) (pe_tup (pa_cons (pe_call (ok_read_answer T) (hr.mono (by decide)) rfl T.g_read_answer T.F_read_answer.kp T.b_read_answer .nil (passes_call (E := fun cls d H => ∀ σ, W cls d σ H) tk (fun _ _ σ _ h => h σ)) (pa_cons (pv 1) pa_nil)) pa_nil)) (pe_tup (pa_cons (pe_call (ok_read_block T) (hr.mono (by decide)) rfl T.g_read_block T.F_read_block.kp T.b_read_block .nil (passes_call (E := fun cls d H => ∀ σ, W cls d σ H) tk (fun _ _ σ _ h => h σ)) (pa_cons (pv 1) pa_nil)) pa_nil))))))) (fun _ _ _ _ _ _ _ => (pss_one (ps_ret pe_non))))), ?_⟩
    have hx : PySem.W.exmOne K (.ref T.C_NoOctets) (.ref T.C_NoOctets) = some true := T.SE_NoOctets
    have hl' : (os.map V.int).length ≤ 1000000 := by rw [List.length_map]; exact hl
    have three : w0 = 0 ∨ w0 = 1 ∨ w0 = 2 := by omega
    rcases three with z | z | z <;> subst z
    · refine ⟨_, rfl, rfl, _, rfl, ifT (by decide) ?_⟩
      refine ⟨_, rfl, .ref a, rfl, .inl ⟨a, _, rfl, ha, hl', kinds_ints _, read_end hos ?_⟩⟩
      unfold readTh at qe qo
      rw [if_pos rfl] at qe qo
      revert qe qo
      cases whole os takeIns with
      | error z =>
        intro qe qo d H1 s1 hd σ
        exact ⟨true, hx, fun _ x hx0 => qe z rfl H1 s1, fun z => nomatch z⟩
      | ok i =>
        intro qe qo v H1 s1 hv
        exact ⟨by show 1 ≤ sizeLine; decide, fun r hr => qo (.ins i) rfl r v _ (s1.free hr) (s1.trans (Same.new hr)) upd_same (thv_keep (t := .ins i) (Same.new hr) hv)⟩
    · refine ⟨_, rfl, rfl, _, rfl, ifF (by decide) ?_⟩
      refine ⟨_, rfl, rfl, _, rfl, ifT (by decide) ?_⟩
      refine ⟨_, rfl, .ref a, rfl, .inl ⟨a, _, rfl, ha, hl', kinds_ints _, read_end hos ?_⟩⟩
      unfold readTh at qe qo
      rw [if_neg (by decide), if_pos rfl] at qe qo
      revert qe qo
      cases whole os takeAns with
      | error z =>
        intro qe qo d H1 s1 hd σ
        exact ⟨true, hx, fun _ x hx0 => qe z rfl H1 s1, fun z => nomatch z⟩
      | ok i =>
        intro qe qo v H1 s1 hv
        exact ⟨by show 1 ≤ sizeLine; decide, fun r hr => qo (.ans i) rfl r v _ (s1.free hr) (s1.trans (Same.new hr)) upd_same (thv_keep (t := .ans i) (Same.new hr) hv)⟩
    · refine ⟨_, rfl, rfl, _, rfl, ifF (by decide) ?_⟩
      refine ⟨_, rfl, rfl, _, rfl, ifF (by decide) ?_⟩
      refine ⟨_, rfl, .ref a, rfl, .inl ⟨a, _, rfl, ha, hl', kinds_ints _, read_end hos ?_⟩⟩
      unfold readTh at qe qo
      rw [if_neg (by decide), if_neg (by decide)] at qe qo
      revert qe qo
      cases whole os takeBlk with
      | error z =>
        intro qe qo d H1 s1 hd σ
        exact ⟨true, hx, fun _ x hx0 => qe z rfl H1 s1, fun z => nomatch z⟩
      | ok i =>
        intro qe qo v H1 s1 hv
        exact ⟨by show 1 ≤ sizeLine; decide, fun r hr => qo (.blk i) rfl r v _ (s1.free hr) (s1.trans (Same.new hr)) upd_same (thv_keep (t := .blk i) (Same.new hr) hv)⟩

theorem ok_law (T : Txt K mg) : FnOk P w K mg base CX0 12 T.f_law T.d_law ["script"] (spLaw K) := by
  refine T.F_law.ok sc_law (fun vs H Q E h => ?_) (fun cdv A outer s H vs Q E hr h => ?_)
  · obtain ⟨a, ns, rfl, _⟩ := h
    rfl
  · obtain ⟨a, ns, rfl, hS, hl, q⟩ := h
    have hud : (A.deeper (envOfC "law" (defScope s_law) s.heap.objs.size T.f_law cdv)).units + 64 < cLine := by have := hr.un; omega
    refine ⟨_, (pss_cons (ps_set (i := 1) sc_law.nd rfl (Or.inl rfl) (pe_call (ok_law_open T) (hr.mono (by decide)) rfl T.g_law_open T.F_law_open.kp T.b_law_open .nil pass0 (pa_cons (pv 0) pa_nil)))
      (pss_cons (ps_for PassesOwn.never rfl (pi_range1 rfl T.z_range (pa_cons pe_int pa_nil)) (pg_name (i := 2) sc_law.nd rfl (Or.inl rfl))
        (pss_cons (ps_set (i := 3) sc_law.nd rfl (Or.inl rfl) (pe_lst (pa_cons (pe_call (ok_law_draw_instruction T) (hr.mono (by decide)) rfl T.g_law_draw_instruction T.F_law_draw_instruction.kp T.b_law_draw_instruction .nil pass0 (pa_cons (pv 1) pa_nil)) (pa_cons (pe_call (ok_law_draw_answer T) (hr.mono (by decide)) rfl T.g_law_draw_answer T.F_law_draw_answer.kp T.b_law_draw_answer .nil pass0 (pa_cons (pv 1) pa_nil)) (pa_cons (pe_call (ok_law_draw_block T) (hr.mono (by decide)) rfl T.g_law_draw_block T.F_law_draw_block.kp T.b_law_draw_block .nil pass0 (pa_cons (pv 1) pa_nil)) pa_nil)))))
      (pss_cons (ps_set (i := 4) sc_law.nd rfl (Or.inl rfl) (pe_lst (pa_cons (pe_call (ok_law_draw_instruction T) (hr.mono (by decide)) rfl T.g_law_draw_instruction T.F_law_draw_instruction.kp T.b_law_draw_instruction .nil pass0 (pa_cons (pv 1) pa_nil)) (pa_cons (pe_call (ok_law_draw_answer T) (hr.mono (by decide)) rfl T.g_law_draw_answer T.F_law_draw_answer.kp T.b_law_draw_answer .nil pass0 (pa_cons (pv 1) pa_nil)) (pa_cons (pe_call (ok_law_draw_block T) (hr.mono (by decide)) rfl T.g_law_draw_block T.F_law_draw_block.kp T.b_law_draw_block .nil pass0 (pa_cons (pv 1) pa_nil)) pa_nil)))))
      (pss_cons (ps_for PassesOwn.never rfl (pi_range1 rfl T.z_range (pa_cons pe_int pa_nil)) (pg_name (i := 5) sc_law.nd rfl (Or.inl rfl))
        (pss_cons (ps_par (i := 6) (j := 7) rfl sc_law.nd rfl rfl (by decide) rfl rfl (pa_cons (pe_call (ok_law_write T) (hr.mono (by decide)) rfl T.g_law_write T.F_law_write.kp T.b_law_write .nil pass0 (pa_cons (pv 5) (pa_cons (pe_ix ix_list (pv 3) (pv 5) (fun _ _ => rfl)) pa_nil))) (pa_cons (pe_call (ok_law_write T) (hr.mono (by decide)) rfl T.g_law_write T.F_law_write.kp T.b_law_write .nil pass0 (pa_cons (pv 5) (pa_cons (pe_ix ix_list (pv 4) (pv 5) (fun _ _ => rfl)) pa_nil))) pa_nil)) (by rfl))
      (pss_cons (ps_if (PW.pt (pw_or (pt_cmpR (op_neD hud) (pe_call (ok_law_read T) (hr.mono (by decide)) rfl T.g_law_read T.F_law_read.kp T.b_law_read .nil pass0 (pa_cons (pv 5) (pa_cons (pv 6) pa_nil))) (pe_tup (pa_cons (pe_ix ix_list (pv 3) (pv 5) (fun _ _ => rfl)) pa_nil)) (nomark _)) (pw_or1 (pt_cmpR op_ne (pe_cmpR (op_eqD hud) (pv 6) (pv 7) (nomark _)) (pe_cmpR (op_eqD hud) (pe_ix ix_list (pv 3) (pv 5) (fun _ _ => rfl)) (pe_ix ix_list (pv 4) (pv 5) (fun _ _ => rfl)) (nomark _)) (nomark _))))) (pss_one (ps_ret pe_bl)) pss_nil)
      (pss_cons (ps_for PassesOwn.never rfl (pi_list (pe_lst (pa_cons (pe_call (ok_law_bent_octets T) (hr.mono (by decide)) rfl T.g_law_bent_octets T.F_law_bent_octets.kp T.b_law_bent_octets .nil pass0 (pa_cons (pv 1) (pa_cons (pv 6) pa_nil))) (pa_cons (pe_call (ok_law_bent_octets T) (hr.mono (by decide)) rfl T.g_law_bent_octets T.F_law_bent_octets.kp T.b_law_bent_octets .nil pass0 (pa_cons (pv 1) (pa_cons (pv 7) pa_nil))) (pa_cons (pe_op op_cat (pv 6) (pv 7)) pa_nil))))) (pg_name (i := 8) sc_law.nd rfl (Or.inl rfl))
        (pss_cons (ps_set (i := 9) sc_law.nd rfl (Or.inl rfl) (pe_call (ok_law_read T) (hr.mono (by decide)) rfl T.g_law_read T.F_law_read.kp T.b_law_read .nil pass0 (pa_cons (pv 5) (pa_cons (pv 8) pa_nil))))
      (pss_one (ps_if (PW.pt (pw_and (pt_cmpR op_notN (pv 9) pe_non (nomark _)) (pw_and1 (pt_cmpR (op_neD hud) (pe_call (ok_law_write T) (hr.mono (by decide)) rfl T.g_law_write T.F_law_write.kp T.b_law_write .nil pass0 (pa_cons (pv 5) (pa_cons (pe_ix ix_tup (pv 9) pe_int (fun _ _ => rfl)) pa_nil))) (pv 8) (nomark _))))) (pss_one (ps_ret pe_bl)) pss_nil))))
      (pss_cons (ps_set (i := 10) sc_law.nd rfl (Or.inl rfl) (pe_call (ok_law_take T) (hr.mono (by decide)) rfl T.g_law_take T.F_law_take.kp T.b_law_take .nil pass0 (pa_cons (pv 1) (pa_cons (pe_callB call_len rfl T.z_len boot_len (pa_cons (pv 6) pa_nil)) pa_nil))))
      (pss_one (ps_for PassesOwn.never rfl (pi_list (pe_op op_rep (pe_lst (pa_cons (pe_slice sl_list (pv 6) po_none (po_some (pv 10))) (pa_cons (pe_op op_cat (pv 6) (pv 7)) pa_nil))) (pe_callTy call_int1 rfl T.z_int boot_int (pa_cons (pe_cmpR op_lt (pv 5) pe_int (nomark _)) pa_nil)))) (pg_name (i := 8) sc_law.nd rfl (Or.inl rfl))
        (pss_one (ps_if (pt_cmpR op_notN (pe_call (ok_law_read T) (hr.mono (by decide)) rfl T.g_law_read T.F_law_read.kp T.b_law_read .nil pass0 (pa_cons (pv 5) (pa_cons (pv 8) pa_nil))) pe_non (nomark _)) (pss_one (ps_ret pe_bl)) pss_nil)))))))))
      (pss_cons (ps_asg (pe_ix ix_list (pv 3) pe_int (fun _ _ => rfl)) (pg_tup rfl (pgs_cons (pg_name (i := 11) sc_law.nd rfl (Or.inl rfl)) (pgs_cons (pg_name (i := 12) sc_law.nd rfl (Or.inl rfl)) (pgs_cons (pg_name (i := 13) sc_law.nd rfl (Or.inl rfl)) pgs_nil)))))
      (pss_one (ps_if (pt_cmpR op_lt (pe_callB call_len rfl T.z_len boot_len (pa_cons (pv 13) pa_nil)) pe_int (nomark _)) (pss_cons (ps_set (i := 14) sc_law.nd rfl (Or.inl rfl) (pe_call (ok_law_draw_line T) (hr.mono (by decide)) rfl T.g_law_draw_line T.F_law_draw_line.kp T.b_law_draw_line .nil pass0 (pa_cons (pv 1) (pa_cons (pv 11) pa_nil))))
      (pss_cons (ps_set (i := 15) sc_law.nd rfl (Or.inl rfl) (pe_slice sl_list (pe_call (ok_law_write T) (hr.mono (by decide)) rfl T.g_law_write T.F_law_write.kp T.b_law_write .nil pass0 (pa_cons pe_int (pa_cons (pe_tup (pa_cons (pv 11) (pa_cons (pv 12) (pa_cons (pe_tup (pa_cons (pv 14) pa_nil)) pa_nil)))) pa_nil))) (po_some (pe_callB call_len rfl T.z_len boot_len (pa_cons (pe_call (ok_law_write T) (hr.mono (by decide)) rfl T.g_law_write T.F_law_write.kp T.b_law_write .nil pass0 (pa_cons pe_int (pa_cons (pe_tup (pa_cons (pv 11) (pa_cons (pv 12) (pa_cons (pe_tup pa_nil) pa_nil)))) pa_nil))) pa_nil))) po_none))
      (pss_one (ps_if (pt_cmpR (op_neD hud) (pe_call (ok_law_read T) (hr.mono (by decide)) rfl T.g_law_read T.F_law_read.kp T.b_law_read .nil pass0 (pa_cons pe_int (pa_cons (pe_op op_cat (pe_call (ok_law_write T) (hr.mono (by decide)) rfl T.g_law_write T.F_law_write.kp T.b_law_write .nil pass0 (pa_cons pe_int (pa_cons (pe_ix ix_list (pv 3) pe_int (fun _ _ => rfl)) pa_nil))) (pv 15)) pa_nil))) (pe_tup (pa_cons (pe_tup (pa_cons (pv 11) (pa_cons (pv 12) (pa_cons (pe_op op_catA (pv 13) (pe_tup (pa_cons (pv 14) pa_nil))) pa_nil)))) pa_nil)) (nomark _)) (pss_one (ps_ret pe_bl)) pss_nil)))) pss_nil)))))))
      (pss_one (ps_ret pe_bl)))), ?_⟩
    refine ⟨_, rfl, a, ns, rfl, hS, hl, fun p c H1 hp s1 P1 => ?_⟩
    refine ⟨_, rfl, by decide, by decide, ?_⟩
    refine for_range (lo := 0) (n := 6) (fun i σ H' => ∃ v2 v3 v4 v5 v6 v7 v8 v9 v10 v11 v12 v13 v14 v15 : Option V, σ = [some (.ref a), some (.ref p), v2, v3, v4, v5, v6, v7, v8, v9, v10, v11, v12, v13, v14, v15] ∧ Pen H' p c (20000 * i)) ⟨_, _, _, _, _, _, _, _, _, _, _, _, _, _, rfl, P1⟩ ?_ ?_
    · rintro i σ H2 hi ⟨v2, v3, v4, v5, v6, v7, v8, v9, v10, v11, v12, v13, v14, v15, rfl, P2⟩
      -- things
      refine ⟨_, rfl, p, c, 20000 * i, rfl, P2, by omega, fun a0 i0 H3 g0 ok0 d3 => ?_⟩
      refine ⟨_, rfl, p, c, 20000 * i + 200, rfl, d3.pen, by omega, fun a1 i1 H4 g1 ok1 d4 => ?_⟩
      refine ⟨_, rfl, p, c, 20000 * i + 400, rfl, d4.pen, by omega, fun vb b0 H5 hb0 okb d5 => ?_⟩
      refine ⟨by show 3 ≤ sizeLine; decide, fun th hth => ?_⟩
      have np : ∀ {m : Nat} {HH : Hp} {x : Addr} {ys : List V}, Pen HH p c m → HH x = some (.tup ys) → x ≠ p := fun P e z => by
        obtain ⟨⟨ps, hp⟩, _⟩ := P.some
        rw [z, hp] at e
        cases e
      have g0' := d5.but a0 _ (np d3.pen g0) (d4.but a0 _ (np d3.pen g0) g0)
      have g1' := d5.but a1 _ (np d4.pen g1) g1
      have sth : Same H5 (upd H5 th (.lst [.ref a0, .ref a1, vb])) := Same.new hth
      have TH : Things K (upd H5 th (.lst [.ref a0, .ref a1, vb])) p th [.ref a0, .ref a1, vb] (three (.ins i0) (.ans i1) (.blk b0)) := by
        refine ⟨upd_same, Ne.symm (d5.pen.ne hth), fun w hw => ?_⟩
        have hw3 : w = 0 ∨ w = 1 ∨ w = 2 := by omega
        rcases hw3 with z | z | z <;> subst z
        · exact ⟨_, rfl, ⟨a0, rfl, .inl (.inl (sth _ _ g0'))⟩, rfl, ok0⟩
        · exact ⟨_, rfl, ⟨a1, rfl, .inl (.inl (sth _ _ g1'))⟩, rfl, ok1⟩
        · exact ⟨_, rfl, BlkV.keep sth hb0, rfl, okb⟩
      have P5 := d5.pen.keep sth
      -- others
      refine ⟨_, rfl, p, c, 20000 * i + 4400, rfl, P5, by omega, fun b0a j0 H6 h0 oj0 d6 => ?_⟩
      refine ⟨_, rfl, p, c, 20000 * i + 4600, rfl, d6.pen, by omega, fun b1a j1 H7 h1 oj1 d7 => ?_⟩
      refine ⟨_, rfl, p, c, 20000 * i + 4800, rfl, d7.pen, by omega, fun vc c0 H8 hc0 okc d8 => ?_⟩
      refine ⟨by show 3 ≤ sizeLine; decide, fun ot hot => ?_⟩
      have h0' := d8.but b0a _ (np d6.pen h0) (d7.but b0a _ (np d6.pen h0) h0)
      have h1' := d8.but b1a _ (np d7.pen h1) h1
      have sot : Same H8 (upd H8 ot (.lst [.ref b0a, .ref b1a, vc])) := Same.new hot
      have OT : Things K (upd H8 ot (.lst [.ref b0a, .ref b1a, vc])) p ot [.ref b0a, .ref b1a, vc] (three (.ins j0) (.ans j1) (.blk c0)) := by
        refine ⟨upd_same, Ne.symm (d8.pen.ne hot), fun w hw => ?_⟩
        have hw3 : w = 0 ∨ w = 1 ∨ w = 2 := by omega
        rcases hw3 with z | z | z <;> subst z
        · exact ⟨_, rfl, ⟨b0a, rfl, .inl (.inl (sot _ _ h0'))⟩, rfl, oj0⟩
        · exact ⟨_, rfl, ⟨b1a, rfl, .inl (.inl (sot _ _ h1'))⟩, rfl, oj1⟩
        · exact ⟨_, rfl, BlkV.keep sot hc0, rfl, okc⟩
      have TH8 := (((TH.drew P5 d6).drew d6.pen d7).drew d7.pen d8).keep sot
      have P8 := d8.pen.keep sot
      refine ⟨_, rfl, by decide, by decide, ?_⟩
      refine for_range (lo := 0) (n := 3) (fun w σ H' => ∃ v5 v6 v7 v8 v9 v10 : Option V, σ = [some (.ref a), some (.ref p), some (.int (0 + (i : Int))), some (.ref th), some (.ref ot), v5, v6, v7, v8, v9, v10, v11, v12, v13, v14, v15] ∧
        Pen H' p c (20000 * i + 8800 + 100 * w) ∧ Things K H' p th [.ref a0, .ref a1, vb] (three (.ins i0) (.ans i1) (.blk b0)) ∧ Things K H' p ot [.ref b0a, .ref b1a, vc] (three (.ins j0) (.ans j1) (.blk c0))) ⟨_, _, _, _, _, _, rfl, P8.mono (by omega), TH8, OT⟩ ?_ ?_
      · rintro w σ H9 hw ⟨v5, v6, v7, v8, v9, v10, rfl, P9, TH9, OT9⟩
        obtain ⟨v, hv, hV, hway, hok⟩ := TH9.at_ w hw
        obtain ⟨u, hu, hU, hwu, hoku⟩ := OT9.at_ w hw
        generalize three (.ins i0) (.ans i1) (.blk b0) w = t at hV hway hok
        generalize three (.ins j0) (.ans j1) (.blk c0) w = r at hU hwu hoku
        have ew : (0 : Int) + (w : Int) = (w : Int) := by omega
        refine ⟨_, rfl, _, rfl, _, rfl, th, _, _, v, rfl, rfl, SqL.of TH9.g, at_ofN ew hv, v, t, by show [V.int (0 + (w : Int)), v] = [V.int ((t.way : Nat) : Int), v]; rw [ew, hway], hV, hok, fun o1 H10 ho1 s10 go1 => ?_⟩
        refine ⟨_, rfl, _, rfl, _, rfl, ot, _, _, u, rfl, rfl, SqL.of (s10 _ _ OT9.g), at_ofN ew hu, u, r, by show [V.int (0 + (w : Int)), u] = [V.int ((r.way : Nat) : Int), u]; rw [ew, hwu], thv_keep s10 hU, hoku, fun o2 H11 ho2 s11 go2 => ⟨_, _, rfl, ?_⟩⟩
        have go1' := s11 _ _ go1
        have lt := th_len hok
        have lr := th_len hoku
        refine ⟨_, rfl, _, rfl, w, o1, t.oct, by show [V.int (0 + (w : Int)), V.ref o1] = [V.int ((w : Nat) : Int), V.ref o1]; rw [ew], hw, go1', by omega, th_octs hok, fun z hz => ?_, fun t' ht' ra va H12 hra s12 gra hva => ?_⟩
        · rw [← hway, readTh_oct t hok] at hz; cases hz
        rw [← hway, readTh_oct t hok] at ht'
        cases ht'
        have S12 := (s10.trans s11).trans s12
        refine ⟨_, rfl, _, rfl, th, _, _, v, rfl, rfl, SqL.of (S12 _ _ TH9.g), at_ofN ew hv, by show 1 ≤ sizeLine; decide, fun tp htp => ?_⟩
        have s13 : Same H12 (upd H12 tp (.tup [v])) := Same.new htp
        have S13 := S12.trans s13
        have isT1 : isd (.tuple [t.dat]) = true := by show (isd t.dat && true) = true; rw [isd_th]; rfl
        refine ⟨_, _, .tup (.inl (.inl (s13 _ _ gra))) (.cons (dp_th (thv_keep s13 hva)) .nil), .tup (.inl (.inl upd_same)) (.cons (dp_th (thv_keep S13 hV)) .nil), shp_one hok, shp_one hok, _, rfl, ifF (by rw [eqv_self isT1]; rfl) ?_⟩
        have g1_13 := s13 _ _ (s12 _ _ go1')
        have g2_13 := s13 _ _ (s12 _ _ go2)
        refine ⟨_, rfl, _, rfl, _, _, dp_lst g1_13, dp_lst g2_13, shp_ints lt, shp_ints lr, ?_⟩
        refine ⟨_, rfl, _, rfl, th, _, _, v, rfl, rfl, SqL.of (S13 _ _ TH9.g), at_ofN ew hv, _, rfl, _, rfl, ot, _, _, u, rfl, rfl, SqL.of (S13 _ _ OT9.g), at_ofN ew hu, _, _, dp_th (thv_keep S13 hV), dp_th (thv_keep S13 hU), shp_th hok, shp_th hoku, rfl, _, rfl, ifF (by rw [same_both (hway.trans hwu.symm) hok hoku, decide_eq_true rfl]; rfl) ?_⟩
        have P13 := P9.keep S13
        have n1p : o1 ≠ p := Ne.symm (P9.ne ho1)
        have n2p : o2 ≠ p := Ne.symm ((P9.keep s10).ne ho2)
        refine ⟨_, rfl, _, rfl, p, c, 20000 * i + 8800 + 100 * w, o1, t.oct, rfl, n1p, P13, g1_13, lt, th_octs hok, by omega, fun r1 bs1 H14 hr1 gr1 lr1 ob1 d14 => ?_⟩
        have g2_14 := d14.but o2 _ n2p g2_13
        refine ⟨_, rfl, _, rfl, p, c, 20000 * i + 8800 + 100 * w + 20, o2, r.oct, rfl, n2p, d14.pen, g2_14, lr, th_octs hoku, by omega, fun r2 bs2 H15 hr2 gr2 lr2 ob2 d15 => ?_⟩
        have g1_15 := d15.but o1 _ n1p (d14.but o1 _ n1p g1_13)
        have g2_15 := d15.but o2 _ n2p g2_14
        have gr1_15 := d15.but r1 _ (Ne.symm (P13.ne hr1)) gr1
        have TH15 := ((TH9.keep S13).drew P13 d14).drew d14.pen d15
        have OT15 := ((OT9.keep S13).drew P13 d14).drew d14.pen d15
        refine ⟨_, rfl, _, rfl, o1, o2, _, _, rfl, rfl, g1_15, g2_15, by rw [List.length_map, List.length_map, sizeLine_eq]; omega, fun r3 hr3 => ?_⟩
        have s16 : Same H15 (upd H15 r3 (.lst (t.oct.map V.int ++ r.oct.map V.int))) := Same.new hr3
        refine ⟨by show 3 ≤ sizeLine; decide, fun rl hrl => ?_⟩
        have s17 : Same (upd H15 r3 (.lst (t.oct.map V.int ++ r.oct.map V.int))) (upd (upd H15 r3 (.lst (t.oct.map V.int ++ r.oct.map V.int))) rl (.lst [.ref r1, .ref r2, .ref r3])) := Same.new hrl
        have S17 := s16.trans s17
        generalize hH17 : upd (upd H15 r3 (.lst (t.oct.map V.int ++ r.oct.map V.int))) rl (.lst [.ref r1, .ref r2, .ref r3]) = H17 at s17 S17
        have grl : H17 rl = some (.lst [.ref r1, .ref r2, .ref r3]) := by rw [← hH17]; exact upd_same
        have gr3 : H17 r3 = some (.lst ((t.oct ++ r.oct).map V.int)) := by rw [List.map_append]; exact s17 _ _ upd_same
        have rows : ∀ x ∈ [V.ref r1, .ref r2, .ref r3], ∃ (ra : Addr) (bs : List Int), x = .ref ra ∧ H17 ra = some (.lst (bs.map V.int)) ∧ bs.length ≤ 1000000 ∧ Octs bs := by
          intro x hx
          simp only [List.mem_cons, List.not_mem_nil, or_false] at hx
          rcases hx with h | h | h
          · exact ⟨r1, bs1, h, S17 _ _ gr1_15, by omega, ob1⟩
          · exact ⟨r2, bs2, h, S17 _ _ gr2, by omega, ob2⟩
          · exact ⟨r3, t.oct ++ r.oct, h, gr3, by rw [List.length_append]; omega, octs_app (th_octs hok) (th_octs hoku)⟩
        have P17 := d15.pen.keep S17
        have TH17 := TH15.keep S17
        have OT17 := OT15.keep S17
        refine ⟨rl, rfl, ⟨_, SqL.of grl⟩, ?_⟩
        refine for_it (walk_list (xs := [V.ref r1, .ref r2, .ref r3])) (fun j σ H' => ∃ v8 v9 : Option V, σ = [some (.ref a), some (.ref p), some (.int (0 + (i : Int))), some (.ref th), some (.ref ot), some (.int (0 + (w : Int))), some (.ref o1), some (.ref o2), v8, v9, v10, v11, v12, v13, v14, v15] ∧ Same H17 H') ⟨_, _, rfl, Same.refl _⟩ (fun j σ H' _ ⟨_, _, _, s'⟩ => SqL.of (s' _ _ grl)) ?_ ?_
        · rintro j x σ H18 H18' hj ⟨v8', v9', rfl, s18⟩ ⟨rfl, hx⟩
          obtain ⟨ra', bs, rfl, gb, lb, ob⟩ := rows x (List.mem_of_getElem? hx)
          refine ⟨_, rfl, _, rfl, w, ra', bs, by show [V.int (0 + (w : Int)), V.ref ra'] = [V.int ((w : Nat) : Int), V.ref ra']; rw [ew], hw, s18 _ _ gb, lb, ob, fun z hz H19 s19 => ?_, fun t' ht' rf vf H19 hrf s19 grf hvf => ?_⟩
          · exact ⟨_, rfl, rfl, _, rfl, ifF rfl (ifF rfl ⟨_, _, rfl, s18.trans s19⟩)⟩
          · obtain ⟨w1, w2, w3⟩ := readTh_back hw ob ht'
            refine ⟨_, rfl, rfl, _, rfl, ifT rfl ?_⟩
            refine ⟨_, rfl, _, rfl, rf, _, _, vf, rfl, rfl, .inl (.inl grf), rfl, vf, t', by show [V.int (0 + (w : Int)), vf] = [V.int ((t'.way : Nat) : Int), vf]; rw [ew, w1], hvf, w3, fun wo H20 hwo s20 gwo => ?_⟩
            have gb20 := s20 _ _ (s19 _ _ (s18 _ _ gb))
            rw [w2] at gb20
            have isL : isd (.list (t'.oct.map PyData.int)) = true := by rw [isd]; exact isd_ints _
            exact ⟨_, rfl, _, _, dp_lst gwo, dp_lst gb20, shp_ints (th_len w3), shp_ints (th_len w3), _, rfl, ifF (by rw [eqv_self isL]; rfl) ⟨_, _, rfl, (s18.trans s19).trans s20⟩⟩
        · rintro σ H18 ⟨v8', v9', rfl, s18⟩
          have g1_18 := s18 _ _ (S17 _ _ g1_15)
          have g2_18 := s18 _ _ (S17 _ _ g2_15)
          have P18 := P17.keep s18
          have tp0 := th_pos t hok
          have rp0 := th_pos r hoku
          refine ⟨_, rfl, _, rfl, _, _, rfl, lenL (SqL.of g1_18), p, c, 20000 * i + 8800 + 100 * w + 40, _, rfl, P18.mono (by omega), by rw [List.length_map]; omega, by rw [List.length_map]; omega, by omega, fun sp H19 hp0 hp1 d19 => ?_⟩
          rw [List.length_map] at hp1
          obtain ⟨k, rfl⟩ : ∃ k : Nat, sp = (k : Int) := ⟨sp.toNat, by omega⟩
          have g1_19 := d19.but o1 _ n1p g1_18
          have g2_19 := d19.but o2 _ n2p g2_18
          have TH19 := (TH17.keep s18).drew P18 d19
          have OT19 := (OT17.keep s18).drew P18 d19
          refine ⟨_, rfl, _, rfl, _, rfl, o1, _, rfl, SqL.of g1_19, fun q1 hq1 => ?_⟩
          have sa : Same H19 (upd H19 q1 (.lst (cutV (t.oct.map V.int) none (some (k : Int))))) := Same.new hq1
          have gq1 : (upd H19 q1 (.lst (cutV (t.oct.map V.int) none (some (k : Int))))) q1 = some (.lst ((t.oct.take k).map V.int)) := by rw [upd_same, cut_to, List.map_take]
          generalize upd H19 q1 (.lst (cutV (t.oct.map V.int) none (some (k : Int)))) = Ha at sa gq1
          refine ⟨_, rfl, _, rfl, o1, o2, _, _, rfl, rfl, sa _ _ g1_19, sa _ _ g2_19, by rw [List.length_map, List.length_map, sizeLine_eq]; omega, fun q2 hq2 => ?_⟩
          have sb : Same Ha (upd Ha q2 (.lst (t.oct.map V.int ++ r.oct.map V.int))) := Same.new hq2
          have gq2 : (upd Ha q2 (.lst (t.oct.map V.int ++ r.oct.map V.int))) q2 = some (.lst ((t.oct ++ r.oct).map V.int)) := by rw [upd_same, List.map_append]
          generalize upd Ha q2 (.lst (t.oct.map V.int ++ r.oct.map V.int)) = Hb at sb gq2
          refine ⟨by show 2 ≤ sizeLine; decide, fun ql hql => ?_⟩
          have sc : Same Hb (upd Hb ql (.lst [.ref q1, .ref q2])) := Same.new hql
          have gql : (upd Hb ql (.lst [.ref q1, .ref q2])) ql = some (.lst [.ref q1, .ref q2]) := upd_same
          generalize upd Hb ql (.lst [.ref q1, .ref q2]) = Hc at sc gql
          refine ⟨_, rfl, _, _, rfl, rfl, .inr ⟨_, rfl, ql, _, _, rfl, rfl, gql, ?_, ?_, ?_, fun rl2 hrl2 => ?_⟩⟩
          · split <;> decide
          · split <;> decide
          · rw [sizeLine_eq]
            split
            · show 2 * 1 ≤ 16777216; decide
            · show 2 * 0 ≤ 16777216; decide
          have sd : Same Hc (upd Hc rl2 (.lst (List.replicate (if decide ((0 : Int) + (w : Int) < 2) = true then (1 : Int) else 0).toNat [V.ref q1, V.ref q2]).flatten)) := Same.new hrl2
          have grl2 : (upd Hc rl2 (.lst (List.replicate (if decide ((0 : Int) + (w : Int) < 2) = true then (1 : Int) else 0).toNat [V.ref q1, V.ref q2]).flatten)) rl2 = some (.lst (List.replicate (if decide ((0 : Int) + (w : Int) < 2) = true then (1 : Int) else 0).toNat [V.ref q1, V.ref q2]).flatten) := upd_same
          have rows2 : ∀ x ∈ (List.replicate (if decide ((0 : Int) + (w : Int) < 2) = true then (1 : Int) else 0).toNat [V.ref q1, V.ref q2]).flatten, ∃ (ra : Addr) (bs : List Int), x = .ref ra ∧ Hc ra = some (.lst (bs.map V.int)) ∧ bs.length ≤ 1000000 ∧ Octs bs ∧ ∃ z, readTh w bs = .error z := by
            intro x hx
            obtain ⟨l, hl1, hl2⟩ := List.mem_flatten.mp hx
            obtain ⟨hne, rfl⟩ := List.mem_replicate.mp hl1
            have hw2 : w < 2 := by
              by_cases hw2 : decide ((0 : Int) + (w : Int) < 2) = true
              · have := of_decide_eq_true hw2; omega
              · rw [if_neg hw2] at hne; exact absurd rfl hne
            simp only [List.mem_cons, List.not_mem_nil, or_false] at hl2
            rcases hl2 with h | h
            · exact ⟨q1, t.oct.take k, h, sc _ _ (sb _ _ gq1), by rw [List.length_take]; omega, octs_take (th_octs hok) k, hway ▸ cut_none (by omega) hok (by omega)⟩
            · exact ⟨q2, t.oct ++ r.oct, h, sc _ _ gq2, by rw [List.length_append]; omega, octs_app (th_octs hok) (th_octs hoku), hway ▸ more_none (by omega) hok rp0⟩
          generalize (List.replicate (if decide ((0 : Int) + (w : Int) < 2) = true then (1 : Int) else 0).toNat [V.ref q1, V.ref q2]).flatten = ys at sd grl2 rows2
          generalize upd Hc rl2 (.lst ys) = Hd at sd grl2
          refine ⟨rl2, rfl, ⟨_, SqL.of grl2⟩, ?_⟩
          refine for_it (walk_list (xs := ys)) (fun j σ H' => ∃ v8 : Option V, σ = [some (.ref a), some (.ref p), some (.int (0 + (i : Int))), some (.ref th), some (.ref ot), some (.int (0 + (w : Int))), some (.ref o1), some (.ref o2), v8, v9', some (.int (k : Nat)), v11, v12, v13, v14, v15] ∧ Same Hd H') ⟨_, rfl, Same.refl _⟩ (fun j σ H' _ ⟨_, _, s'⟩ => SqL.of (s' _ _ grl2)) ?_ ?_
          · rintro j x σ H20 H20' hj ⟨v8x, rfl, s20⟩ ⟨rfl, hx⟩
            obtain ⟨ra', bs, rfl, gb, lb, ob, z0, hz0⟩ := rows2 x (List.mem_of_getElem? hx)
            refine ⟨_, rfl, _, rfl, w, ra', bs, by show [V.int (0 + (w : Int)), V.ref ra'] = [V.int ((w : Nat) : Int), V.ref ra']; rw [ew], hw, s20 _ _ (sd _ _ gb), lb, ob, fun z hz H21 s21 => ⟨rfl, _, rfl, ifF rfl ⟨_, rfl, s20.trans s21⟩⟩, fun t' ht' => by rw [hz0] at ht'; cases ht'⟩
          · rintro σ H20 ⟨v8x, rfl, s20⟩
            have Sx := (((sa.trans sb).trans sc).trans sd).trans s20
            exact ⟨_, _, _, _, _, _, rfl, (d19.pen.keep Sx).mono (by omega), TH19.keep Sx, OT19.keep Sx⟩
      · rintro σ H20 ⟨v5', v6', v7', v8', v9', v10', rfl, P20, TH20, OT20⟩
        obtain ⟨v, hv, hV, _, hok⟩ := TH20.at_ 2 (by decide)
        cases hv
        have okb : b0.Ok := hok
        obtain ⟨ba, bt, bxs, rfl, hb1, hb2, hb3⟩ := (show BlkV K H20 vb b0 from hV)
        have o1 := okb.req_
        have o2 := okb.base_
        have o3 := okb.len_
        have hll := hb3.len
        refine ⟨_, rfl, th, _, _, .ref ba, rfl, rfl, SqL.of TH20.g, rfl, ?_⟩
        refine ⟨ba, _, rfl, hb1, rfl, ⟨_, _, rfl, ⟨_, _, rfl, ⟨_, _, rfl, rfl, ?_⟩⟩⟩⟩
        refine ⟨_, rfl, _, _, rfl, .inr ⟨_, hb2, rfl⟩, _, _, rfl, rfl, _, rfl, ifb (fun h => ?_) (fun h => ?_)⟩
        · have h16 : b0.ls.length < 16 := by have : ((bxs.length : Nat) : Int) < 16 := of_decide_eq_true h; omega
          refine ⟨_, rfl, _, rfl, p, c, 20000 * i + 8800 + 100 * 3, b0.req, rfl, P20, by omega, o1, fun la ln H21 gla okl d21 => ?_⟩
          have TH21 := TH20.drew P20 d21
          obtain ⟨v', hv', hV', _, _⟩ := TH21.at_ 2 (by decide)
          cases hv'
          have hB21 : BlkV K H21 (.ref ba) b0 := hV'
          have lnV : ∀ H', Same H21 H' → LnV K H' (.ref la) ln := fun H' s' => ⟨la, rfl, .inl (.inl (s' _ _ gla))⟩
          -- the block of this line alone
          refine ⟨_, rfl, _, rfl, _, rfl, by show 1 ≤ sizeLine; decide, fun t1 ht1 => ?_⟩
          have sa : Same H21 (upd H21 t1 (.tup [.ref la])) := Same.new ht1
          have g1 : (upd H21 t1 (.tup [.ref la])) t1 = some (.tup [.ref la]) := upd_same
          generalize upd H21 t1 (.tup [.ref la]) = Ha at sa g1
          refine ⟨by show 3 ≤ sizeLine; decide, fun t2 ht2 => ?_⟩
          have sb : Same Ha (upd Ha t2 (.tup [.int b0.req, .int b0.base, .ref t1])) := Same.new ht2
          have g2 : (upd Ha t2 (.tup [.int b0.req, .int b0.base, .ref t1])) t2 = some (.tup [.int b0.req, .int b0.base, .ref t1]) := upd_same
          generalize upd Ha t2 (.tup [.int b0.req, .int b0.base, .ref t1]) = Hb at sb g2
          have ok1b : (Blk.mk b0.req b0.base [ln]).Ok := ⟨o1, o2, by show 1 ≤ 16; decide, fun l hl => by rw [List.mem_singleton.mp hl]; exact okl⟩
          have ok0b : (Blk.mk b0.req b0.base []).Ok := ⟨o1, o2, by show 0 ≤ 16; decide, fun l hl => nomatch hl⟩
          refine ⟨.ref t2, .blk ⟨b0.req, b0.base, [ln]⟩, rfl, ⟨t2, t1, _, rfl, .inl (.inl g2), .inl (.inl (sb _ _ g1)), .cons (lnV _ (sa.trans sb)) .nil⟩, ok1b, fun w1 Hc hw1 sc gw1 => ?_⟩
          refine ⟨_, rfl, _, rfl, by show 0 ≤ sizeLine; decide, fun t3 ht3 => ?_⟩
          have sd : Same Hc (upd Hc t3 (.tup [])) := Same.new ht3
          have g3 : (upd Hc t3 (.tup [])) t3 = some (.tup []) := upd_same
          generalize upd Hc t3 (.tup []) = Hd at sd g3
          refine ⟨by show 3 ≤ sizeLine; decide, fun t4 ht4 => ?_⟩
          have se : Same Hd (upd Hd t4 (.tup [.int b0.req, .int b0.base, .ref t3])) := Same.new ht4
          have g4 : (upd Hd t4 (.tup [.int b0.req, .int b0.base, .ref t3])) t4 = some (.tup [.int b0.req, .int b0.base, .ref t3]) := upd_same
          generalize upd Hd t4 (.tup [.int b0.req, .int b0.base, .ref t3]) = He at se g4
          refine ⟨.ref t4, .blk ⟨b0.req, b0.base, []⟩, rfl, ⟨t4, t3, _, rfl, .inl (.inl g4), .inl (.inl (se _ _ g3)), .nil⟩, ok0b, fun w2 Hf hw2 sf gw2 => ?_⟩
          refine ⟨_, _, rfl, lenL (SqL.of gw2), _, rfl, w1, _, rfl, SqL.of (sf _ _ (se _ _ (sd _ _ gw1))), fun mo hmo => ?_⟩
          have emo : cutV ((Th.blk ⟨b0.req, b0.base, [ln]⟩).oct.map V.int) (some (((((Th.blk ⟨b0.req, b0.base, []⟩).oct.map V.int).length : Nat) : Int))) none = (ln.oct b0.base).map V.int := by
            rw [cut_from, ← List.map_drop, List.length_map]
            have e1 : (Th.blk ⟨b0.req, b0.base, [ln]⟩).oct = (Th.blk ⟨b0.req, b0.base, []⟩).oct ++ ln.oct b0.base := more_oct ⟨b0.req, b0.base, []⟩ ln
            rw [e1, List.drop_append]
            simp
          rw [emo]
          have sg : Same Hf (upd Hf mo (.lst ((ln.oct b0.base).map V.int))) := Same.new hmo
          have gmo : (upd Hf mo (.lst ((ln.oct b0.base).map V.int))) mo = some (.lst ((ln.oct b0.base).map V.int)) := upd_same
          generalize upd Hf mo (.lst ((ln.oct b0.base).map V.int)) = Hg at sg gmo
          have Sg := (((((sa.trans sb).trans sc).trans sd).trans se).trans sf).trans sg
          have ll := ln_len2 (base := b0.base) okl o1 o2
          have lb := blk_len2 okb
          refine ⟨_, rfl, th, _, _, .ref ba, rfl, rfl, SqL.of (Sg _ _ TH21.g), rfl, .ref ba, .blk b0, rfl, BlkV.keep Sg hB21, okb, fun w3 Hh hw3 sh gw3 => ?_⟩
          have okm := more_ok okb okl h16
          have lm := blk_len2 okm
          have gw3' : Hh w3 = some (.lst (b0.oct.map V.int)) := gw3
          refine ⟨_, rfl, w3, mo, _, _, rfl, rfl, gw3', sh _ _ gmo, by rw [List.length_map, List.length_map, sizeLine_eq]; omega, fun bl hbl => ?_⟩
          have si : Same Hh (upd Hh bl (.lst (b0.oct.map V.int ++ (ln.oct b0.base).map V.int))) := Same.new hbl
          have gbl : (upd Hh bl (.lst (b0.oct.map V.int ++ (ln.oct b0.base).map V.int))) bl = some (.lst ((Th.blk (b0.more ln)).oct.map V.int)) := by
            rw [upd_same, ← List.map_append, ← more_oct]; rfl
          generalize upd Hh bl (.lst (b0.oct.map V.int ++ (ln.oct b0.base).map V.int)) = Hi at si gbl
          have rd : readTh 2 (Th.blk (b0.more ln)).oct = .ok (.blk (b0.more ln)) := readTh_oct (.blk (b0.more ln)) okm
          refine ⟨2, bl, (Th.blk (b0.more ln)).oct, rfl, by decide, gbl, by show (b0.more ln).oct.length ≤ 1000000; omega, th_octs (t := .blk (b0.more ln)) okm, fun z hz => (by rw [rd] at hz; cases hz), fun t' ht' rf vf Hj hrf sj grf hvf => ?_⟩
          rw [rd] at ht'
          cases ht'
          have Sj := ((Sg.trans sh).trans si).trans sj
          refine ⟨_, rfl, _, rfl, _, rfl, _, rfl, by show 1 ≤ sizeLine; decide, fun t5 ht5 => ?_⟩
          obtain ⟨⟨ps, hps⟩, _⟩ := P20.some
          have n1 : ∀ ys, H20 p ≠ some (.tup ys) := by rw [hps]; intro ys z; cases z
          have n2 : ∀ o w, H20 p ≠ some (.frz o w) := by rw [hps]; intro o w z; cases z
          have hl3 : LnsV K H21 bxs b0.ls := lns_but d21.but n1 n2 hb3
          have hb2a : SqT K H21 bt bxs := sqT_but hb2 d21.but n1 n2
          have isM : isd (.tuple [(b0.more ln).dat]) = true := by show (isd (Th.blk (b0.more ln)).dat && true) = true; rw [isd_th]; rfl
          have sk : Same Hj (upd Hj t5 (.tup [.ref la])) := Same.new ht5
          have g5 : (upd Hj t5 (.tup [.ref la])) t5 = some (.tup [.ref la]) := upd_same
          have hb2' : SqT K (upd Hj t5 (.tup [.ref la])) bt bxs := sk.tup (Sj.tup hb2a)
          generalize upd Hj t5 (.tup [.ref la]) = Hk at sk g5 hb2'
          refine ⟨bt, t5, _, _, rfl, rfl, hb2', .inl (.inl g5), by show bxs.length + 1 ≤ sizeLine; rw [sizeLine_eq]; omega, fun hnil => ?_, fun hne hy => (nomatch hy), fun hne hy lt hlt => ?_⟩
          · obtain ⟨Hl, eHl⟩ : ∃ x, x = Hk := ⟨_, rfl⟩
            obtain ⟨lt, elt⟩ : ∃ x, x = t5 := ⟨_, rfl⟩
            rw [← eHl, ← elt]
            have skl : Same Hj Hl := by rw [eHl]; exact sk
            have glt : SqT K Hl lt (bxs ++ [.ref la]) := by rw [hnil, eHl, elt]; exact .inl (.inl g5)
            refine ⟨by show 3 ≤ sizeLine; decide, fun t6 ht6 => ?_⟩
            have sl : Same Hl (upd Hl t6 (.tup [.int b0.req, .int b0.base, .ref lt])) := Same.new ht6
            have g6 : (upd Hl t6 (.tup [.int b0.req, .int b0.base, .ref lt])) t6 = some (.tup [.int b0.req, .int b0.base, .ref lt]) := upd_same
            generalize upd Hl t6 (.tup [.int b0.req, .int b0.base, .ref lt]) = Hm at sl g6
            refine ⟨by show 1 ≤ sizeLine; decide, fun t7 ht7 => ?_⟩
            have sm : Same Hm (upd Hm t7 (.tup [.ref t6])) := Same.new ht7
            have g7 : (upd Hm t7 (.tup [.ref t6])) t7 = some (.tup [.ref t6]) := upd_same
            generalize upd Hm t7 (.tup [.ref t6]) = Hn at sm g7
            have Sn := skl.trans (sl.trans sm)
            have BM : BlkV K Hn (.ref t6) (b0.more ln) := ⟨t6, lt, bxs ++ [.ref la], rfl, .inl (.inl (sm _ _ g6)), (sl.trans sm).tup glt, lns_app (lnV _ (Sj.trans Sn)) (hl3.keep (Sj.trans Sn))⟩
            exact ⟨_, _, .tup (.inl (.inl (Sn _ _ grf))) (.cons (dp_th (t := .blk (b0.more ln)) (thv_keep Sn hvf)) .nil), .tup (.inl (.inl g7)) (.cons (dp_blk BM) .nil), shp_one (t := .blk (b0.more ln)) okm, shp_one (t := .blk (b0.more ln)) okm, _, rfl, ifF (by have z := eqv_self isM; show (!PyData.eqv (PyData.tuple [(b0.more ln).dat]) (PyData.tuple [(b0.more ln).dat])) = false; rw [z]; rfl) ⟨_, _, _, _, _, _, _, _, _, _, _, _, _, _, rfl, (d21.pen.keep (Sj.trans Sn)).mono (by omega)⟩⟩
          · have skl0 : Same Hk (upd Hk lt (.tup (bxs ++ [.ref la]))) := Same.new hlt
            have glt0 : (upd Hk lt (.tup (bxs ++ [.ref la]))) lt = some (.tup (bxs ++ [.ref la])) := upd_same
            generalize upd Hk lt (.tup (bxs ++ [.ref la])) = Hl at skl0 glt0
            have skl := sk.trans skl0
            have glt : SqT K Hl lt (bxs ++ [.ref la]) := .inl (.inl glt0)
            refine ⟨by show 3 ≤ sizeLine; decide, fun t6 ht6 => ?_⟩
            have sl : Same Hl (upd Hl t6 (.tup [.int b0.req, .int b0.base, .ref lt])) := Same.new ht6
            have g6 : (upd Hl t6 (.tup [.int b0.req, .int b0.base, .ref lt])) t6 = some (.tup [.int b0.req, .int b0.base, .ref lt]) := upd_same
            generalize upd Hl t6 (.tup [.int b0.req, .int b0.base, .ref lt]) = Hm at sl g6
            refine ⟨by show 1 ≤ sizeLine; decide, fun t7 ht7 => ?_⟩
            have sm : Same Hm (upd Hm t7 (.tup [.ref t6])) := Same.new ht7
            have g7 : (upd Hm t7 (.tup [.ref t6])) t7 = some (.tup [.ref t6]) := upd_same
            generalize upd Hm t7 (.tup [.ref t6]) = Hn at sm g7
            have Sn := skl.trans (sl.trans sm)
            have BM : BlkV K Hn (.ref t6) (b0.more ln) := ⟨t6, lt, bxs ++ [.ref la], rfl, .inl (.inl (sm _ _ g6)), (sl.trans sm).tup glt, lns_app (lnV _ (Sj.trans Sn)) (hl3.keep (Sj.trans Sn))⟩
            exact ⟨_, _, .tup (.inl (.inl (Sn _ _ grf))) (.cons (dp_th (t := .blk (b0.more ln)) (thv_keep Sn hvf)) .nil), .tup (.inl (.inl g7)) (.cons (dp_blk BM) .nil), shp_one (t := .blk (b0.more ln)) okm, shp_one (t := .blk (b0.more ln)) okm, _, rfl, ifF (by have z := eqv_self isM; show (!PyData.eqv (PyData.tuple [(b0.more ln).dat]) (PyData.tuple [(b0.more ln).dat])) = false; rw [z]; rfl) ⟨_, _, _, _, _, _, _, _, _, _, _, _, _, _, rfl, (d21.pen.keep (Sj.trans Sn)).mono (by omega)⟩⟩
        · exact ⟨_, _, _, _, _, _, _, _, _, _, _, _, _, _, rfl, P20.mono (by omega)⟩
    · rintro σ H' ⟨v2, v3, v4, v5, v6, v7, v8, v9, v10, v11, v12, v13, v14, v15, rfl, P2⟩
      exact q H'

end
theorem all_mk {l : PySem.W.OpenLaw} {w : World} {K : PySem.W.Frag} {h : Heap} {mg : Str → Option Value} {fa : Addr} (X : K.In h) (G : h.Ns mainGlobals mg) (hfa : mg "law" = some (.ref fa))
    {C0 : Addr} (cC0 : PySem.W.nsIn K mainGlobals "FieldError" = some (some (.ref C0)))
    (rd0 : PySem.W.readsIn K C0 (.type "type") = true) (ga0 : PySem.W.specialIn K (.ref C0) "__getattribute__" = some (some (.builtin "type.__getattribute__"))) (in0 : PySem.W.findCls K (.ref C0) (.type "type") "__init__" = some (.val (.builtin "ValueError.__init__")))
    (rb0 : PySem.W.subIn K (.ref C0) (.type "BaseException") = some true) (rt0 : PySem.W.typeIn K (.ref C0) = some (.type "type")) (rc0 : PySem.W.hasDictIn K C0 = true)
    {C1 : Addr} (cC1 : PySem.W.nsIn K mainGlobals "NoValue" = some (some (.ref C1)))
    (kC1 : PySem.W.keepIn K (.ref C1) = true) (eC1 : PySem.W.subIn K (.ref C1) (.type "BaseException") = some true) (tC1 : PySem.W.typeIn K (.ref C1) = some (.type "type")) (uC1 : PySem.W.subIn K (.ref C1) (.ref C0) = some true)
    (xC1 : PySem.W.excIn K C1 [.type "ValueError", .type "Exception", .type "BaseException", .type "object"] "ValueError.__new__" = true)
    {C2 : Addr} (cC2 : PySem.W.nsIn K mainGlobals "NoOctetList" = some (some (.ref C2)))
    (kC2 : PySem.W.keepIn K (.ref C2) = true) (eC2 : PySem.W.subIn K (.ref C2) (.type "BaseException") = some true) (tC2 : PySem.W.typeIn K (.ref C2) = some (.type "type")) (uC2 : PySem.W.subIn K (.ref C2) (.ref C0) = some true)
    (xC2 : PySem.W.excIn K C2 [.type "ValueError", .type "Exception", .type "BaseException", .type "object"] "ValueError.__new__" = true)
    {C3 : Addr} (cC3 : PySem.W.nsIn K mainGlobals "NoOctets" = some (some (.ref C3)))
    (kC3 : PySem.W.keepIn K (.ref C3) = true) (eC3 : PySem.W.subIn K (.ref C3) (.type "BaseException") = some true) (tC3 : PySem.W.typeIn K (.ref C3) = some (.type "type")) (uC3 : PySem.W.subIn K (.ref C3) (.ref C0) = some true)
    {nm3 q3 : Str} {N3 : Addr} {bs3 bm3 : List Value} {sn3 : List Str} {sub3 : List Value} {ab3 : Bool} {col3 : Option Bool} {dd3 : Option Addr} {m03 m13 m23 m33 m53 : Option Value}
    (xL3 : K.lookup C3 = some (excClassObj nm3 q3 C3 N3 bs3 bm3 true sn3 sub3 ab3 col3 dd3 m03 m13 m23 m33 m53 "ValueError.__new__")) (rv3 : PySem.HandSPX.refsVE bm3 = true)
    (sa3 : PySem.W.findIn K (.ref C3) "__setattr__" = some (some (.builtin "object.__setattr__"))) (nb3 : PySem.W.findIn K (.ref C3) "place" = some none)
    (sd3 : PySem.W.hasDictIn K C3 = true) (ss3 : PySem.W.subIn K (.ref C3) (.ref C3) = some true)
    {C4 : Addr} (cC4 : PySem.W.nsIn K mainGlobals "Reader" = some (some (.ref C4)))
    (pg4 : PySem.W.plainGet K C4 Str.empty = true) (hd4 : PySem.W.hasDictIn K C4 = true) (po4 : PySem.W.plainOver K C4 = true) (sa4 : PySem.W.findIn K (.ref C4) "__setattr__" = some (some (.builtin "object.__setattr__"))) (mk4 : PySem.W.makesIn K C4 = true) (kC4 : PySem.W.keepIn K (.ref C4) = true)
    (n4_0 : PySem.W.findIn K (.ref C4) "octets" = some none)
    (n4_1 : PySem.W.findIn K (.ref C4) "place" = some none)
    {f0 : Addr} {od0 an0 : Option Addr} {sl0 : Array (Option Value)} {oc0 kV0 dc0 pm0 cd0 ct0 : Value}
    (a0 : PySem.W.findIn K (.ref C3) "__init__" = some (some (.ref f0))) (l0 : K.lookup f0 = some ⟨oc0, od0, .func (PySem.W.fnOf "__init__" "NoOctets.__init__" (defArgs s_NoOctets_init) (defBody s_NoOctets_init) (defScope s_NoOctets_init) .none kV0 dc0 pm0 an0 cd0 ct0), sl0⟩) (c0 : PySem.W.codeIn K cd0 "NoOctets.__init__" = true) (k0 : PySem.W.keepIn K (.ref f0) = true)
    (i0 : PySem.W.isFn K (.ref f0) = true) (t0 : PySem.W.typeIn K (.ref f0) = some (.type "function"))
    {f1 : Addr} {od1 an1 : Option Addr} {sl1 : Array (Option Value)} {oc1 kV1 dc1 pm1 cd1 ct1 : Value}
    (a1 : PySem.W.nsIn K mainGlobals "is_between" = some (some (.ref f1))) (l1 : K.lookup f1 = some ⟨oc1, od1, .func (PySem.W.fnOf "is_between" "is_between" (defArgs s_is_between) (defBody s_is_between) (defScope s_is_between) .none kV1 dc1 pm1 an1 cd1 ct1), sl1⟩) (c1 : PySem.W.codeIn K cd1 "is_between" = true) (k1 : PySem.W.keepIn K (.ref f1) = true)
    {f2 : Addr} {od2 an2 : Option Addr} {sl2 : Array (Option Value)} {oc2 kV2 dc2 pm2 cd2 ct2 : Value}
    (a2 : PySem.W.nsIn K mainGlobals "is_number" = some (some (.ref f2))) (l2 : K.lookup f2 = some ⟨oc2, od2, .func (PySem.W.fnOf "is_number" "is_number" (defArgs s_is_number) (defBody s_is_number) (defScope s_is_number) .none kV2 dc2 pm2 an2 cd2 ct2), sl2⟩) (c2 : PySem.W.codeIn K cd2 "is_number" = true) (k2 : PySem.W.keepIn K (.ref f2) = true)
    {f3 : Addr} {od3 an3 : Option Addr} {sl3 : Array (Option Value)} {oc3 kV3 dc3 pm3 cd3 ct3 : Value}
    (a3 : PySem.W.nsIn K mainGlobals "is_stream" = some (some (.ref f3))) (l3 : K.lookup f3 = some ⟨oc3, od3, .func (PySem.W.fnOf "is_stream" "is_stream" (defArgs s_is_stream) (defBody s_is_stream) (defScope s_is_stream) .none kV3 dc3 pm3 an3 cd3 ct3), sl3⟩) (c3 : PySem.W.codeIn K cd3 "is_stream" = true) (k3 : PySem.W.keepIn K (.ref f3) = true)
    {f4 : Addr} {od4 an4 : Option Addr} {sl4 : Array (Option Value)} {oc4 kV4 dc4 pm4 cd4 ct4 : Value}
    (a4 : PySem.W.nsIn K mainGlobals "is_text" = some (some (.ref f4))) (l4 : K.lookup f4 = some ⟨oc4, od4, .func (PySem.W.fnOf "is_text" "is_text" (defArgs s_is_text) (defBody s_is_text) (defScope s_is_text) .none kV4 dc4 pm4 an4 cd4 ct4), sl4⟩) (c4 : PySem.W.codeIn K cd4 "is_text" = true) (k4 : PySem.W.keepIn K (.ref f4) = true)
    {f5 : Addr} {od5 an5 : Option Addr} {sl5 : Array (Option Value)} {oc5 kV5 dc5 pm5 cd5 ct5 : Value}
    (a5 : PySem.W.nsIn K mainGlobals "is_name" = some (some (.ref f5))) (l5 : K.lookup f5 = some ⟨oc5, od5, .func (PySem.W.fnOf "is_name" "is_name" (defArgs s_is_name) (defBody s_is_name) (defScope s_is_name) .none kV5 dc5 pm5 an5 cd5 ct5), sl5⟩) (c5 : PySem.W.codeIn K cd5 "is_name" = true) (k5 : PySem.W.keepIn K (.ref f5) = true)
    {f6 : Addr} {od6 an6 : Option Addr} {sl6 : Array (Option Value)} {oc6 kV6 dc6 pm6 cd6 ct6 : Value}
    (a6 : PySem.W.nsIn K mainGlobals "is_value" = some (some (.ref f6))) (l6 : K.lookup f6 = some ⟨oc6, od6, .func (PySem.W.fnOf "is_value" "is_value" (defArgs s_is_value) (defBody s_is_value) (defScope s_is_value) .none kV6 dc6 pm6 an6 cd6 ct6), sl6⟩) (c6 : PySem.W.codeIn K cd6 "is_value" = true) (k6 : PySem.W.keepIn K (.ref f6) = true)
    {f7 : Addr} {od7 an7 : Option Addr} {sl7 : Array (Option Value)} {oc7 kV7 dc7 pm7 cd7 ct7 : Value}
    (a7 : PySem.W.nsIn K mainGlobals "are_octets" = some (some (.ref f7))) (l7 : K.lookup f7 = some ⟨oc7, od7, .func (PySem.W.fnOf "are_octets" "are_octets" (defArgs s_are_octets) (defBody s_are_octets) (defScope s_are_octets) .none kV7 dc7 pm7 an7 cd7 ct7), sl7⟩) (c7 : PySem.W.codeIn K cd7 "are_octets" = true) (k7 : PySem.W.keepIn K (.ref f7) = true)
    {f8 : Addr} {od8 an8 : Option Addr} {sl8 : Array (Option Value)} {oc8 kV8 dc8 pm8 cd8 ct8 : Value}
    (a8 : PySem.W.nsIn K mainGlobals "check_octets" = some (some (.ref f8))) (l8 : K.lookup f8 = some ⟨oc8, od8, .func (PySem.W.fnOf "check_octets" "check_octets" (defArgs s_check_octets) (defBody s_check_octets) (defScope s_check_octets) .none kV8 dc8 pm8 an8 cd8 ct8), sl8⟩) (c8 : PySem.W.codeIn K cd8 "check_octets" = true) (k8 : PySem.W.keepIn K (.ref f8) = true)
    {f9 : Addr} {od9 an9 : Option Addr} {sl9 : Array (Option Value)} {oc9 kV9 dc9 pm9 cd9 ct9 : Value}
    (a9 : PySem.W.nsIn K mainGlobals "check_prefix" = some (some (.ref f9))) (l9 : K.lookup f9 = some ⟨oc9, od9, .func (PySem.W.fnOf "check_prefix" "check_prefix" (defArgs s_check_prefix) (defBody s_check_prefix) (defScope s_check_prefix) .none kV9 dc9 pm9 an9 cd9 ct9), sl9⟩) (c9 : PySem.W.codeIn K cd9 "check_prefix" = true) (k9 : PySem.W.keepIn K (.ref f9) = true)
    {f10 : Addr} {od10 an10 : Option Addr} {sl10 : Array (Option Value)} {oc10 kV10 dc10 pm10 cd10 ct10 : Value}
    (a10 : PySem.W.nsIn K mainGlobals "prefix_bits" = some (some (.ref f10))) (l10 : K.lookup f10 = some ⟨oc10, od10, .func (PySem.W.fnOf "prefix_bits" "prefix_bits" (defArgs s_prefix_bits) (defBody s_prefix_bits) (defScope s_prefix_bits) .none kV10 dc10 pm10 an10 cd10 ct10), sl10⟩) (c10 : PySem.W.codeIn K cd10 "prefix_bits" = true) (k10 : PySem.W.keepIn K (.ref f10) = true)
    {f11 : Addr} {od11 an11 : Option Addr} {sl11 : Array (Option Value)} {oc11 kV11 dc11 pm11 cd11 ct11 : Value}
    (a11 : PySem.W.nsIn K mainGlobals "number_octets" = some (some (.ref f11))) (l11 : K.lookup f11 = some ⟨oc11, od11, .func (PySem.W.fnOf "number_octets" "number_octets" (defArgs s_number_octets) (defBody s_number_octets) (defScope s_number_octets) .none kV11 dc11 pm11 an11 cd11 ct11), sl11⟩) (c11 : PySem.W.codeIn K cd11 "number_octets" = true) (k11 : PySem.W.keepIn K (.ref f11) = true)
    {f12 : Addr} {od12 an12 : Option Addr} {sl12 : Array (Option Value)} {oc12 kV12 dc12 pm12 cd12 ct12 : Value}
    (a12 : PySem.W.nsIn K mainGlobals "string_octets" = some (some (.ref f12))) (l12 : K.lookup f12 = some ⟨oc12, od12, .func (PySem.W.fnOf "string_octets" "string_octets" (defArgs s_string_octets) (defBody s_string_octets) (defScope s_string_octets) .none kV12 dc12 pm12 an12 cd12 ct12), sl12⟩) (c12 : PySem.W.codeIn K cd12 "string_octets" = true) (k12 : PySem.W.keepIn K (.ref f12) = true)
    {f13 : Addr} {od13 an13 : Option Addr} {sl13 : Array (Option Value)} {oc13 kV13 dc13 pm13 cd13 ct13 : Value}
    (a13 : PySem.W.nsIn K mainGlobals "value_octets" = some (some (.ref f13))) (l13 : K.lookup f13 = some ⟨oc13, od13, .func (PySem.W.fnOf "value_octets" "value_octets" (defArgs s_value_octets) (defBody s_value_octets) (defScope s_value_octets) .none kV13 dc13 pm13 an13 cd13 ct13), sl13⟩) (c13 : PySem.W.codeIn K cd13 "value_octets" = true) (k13 : PySem.W.keepIn K (.ref f13) = true)
    {f14 : Addr} {od14 an14 : Option Addr} {sl14 : Array (Option Value)} {oc14 kV14 dc14 pm14 cd14 ct14 : Value}
    (a14 : PySem.W.findIn K (.ref C4) "__init__" = some (some (.ref f14))) (l14 : K.lookup f14 = some ⟨oc14, od14, .func (PySem.W.fnOf "__init__" "Reader.__init__" (defArgs s_Reader_init) (defBody s_Reader_init) (defScope s_Reader_init) .none kV14 dc14 pm14 an14 cd14 ct14), sl14⟩) (c14 : PySem.W.codeIn K cd14 "Reader.__init__" = true) (k14 : PySem.W.keepIn K (.ref f14) = true)
    (i14 : PySem.W.isFn K (.ref f14) = true) (t14 : PySem.W.typeIn K (.ref f14) = some (.type "function"))
    {f15 : Addr} {od15 an15 : Option Addr} {sl15 : Array (Option Value)} {oc15 kV15 dc15 pm15 cd15 ct15 : Value}
    (a15 : PySem.W.findIn K (.ref C4) "at_end" = some (some (.ref f15))) (l15 : K.lookup f15 = some ⟨oc15, od15, .func (PySem.W.fnOf "at_end" "Reader.at_end" (defArgs s_Reader_at_end) (defBody s_Reader_at_end) (defScope s_Reader_at_end) .none kV15 dc15 pm15 an15 cd15 ct15), sl15⟩) (c15 : PySem.W.codeIn K cd15 "Reader.at_end" = true) (k15 : PySem.W.keepIn K (.ref f15) = true)
    (i15 : PySem.W.isFn K (.ref f15) = true) (t15 : PySem.W.typeIn K (.ref f15) = some (.type "function"))
    {f16 : Addr} {od16 an16 : Option Addr} {sl16 : Array (Option Value)} {oc16 kV16 dc16 pm16 cd16 ct16 : Value}
    (a16 : PySem.W.findIn K (.ref C4) "look" = some (some (.ref f16))) (l16 : K.lookup f16 = some ⟨oc16, od16, .func (PySem.W.fnOf "look" "Reader.look" (defArgs s_Reader_look) (defBody s_Reader_look) (defScope s_Reader_look) .none kV16 dc16 pm16 an16 cd16 ct16), sl16⟩) (c16 : PySem.W.codeIn K cd16 "Reader.look" = true) (k16 : PySem.W.keepIn K (.ref f16) = true)
    (i16 : PySem.W.isFn K (.ref f16) = true) (t16 : PySem.W.typeIn K (.ref f16) = some (.type "function"))
    {f17 : Addr} {od17 an17 : Option Addr} {sl17 : Array (Option Value)} {oc17 kV17 dc17 pm17 cd17 ct17 : Value}
    (a17 : PySem.W.findIn K (.ref C4) "accept" = some (some (.ref f17))) (l17 : K.lookup f17 = some ⟨oc17, od17, .func (PySem.W.fnOf "accept" "Reader.accept" (defArgs s_Reader_accept) (defBody s_Reader_accept) (defScope s_Reader_accept) .none kV17 dc17 pm17 an17 cd17 ct17), sl17⟩) (c17 : PySem.W.codeIn K cd17 "Reader.accept" = true) (k17 : PySem.W.keepIn K (.ref f17) = true)
    (i17 : PySem.W.isFn K (.ref f17) = true) (t17 : PySem.W.typeIn K (.ref f17) = some (.type "function"))
    {f18 : Addr} {od18 an18 : Option Addr} {sl18 : Array (Option Value)} {oc18 kV18 dc18 pm18 cd18 ct18 : Value}
    (a18 : PySem.W.findIn K (.ref C4) "finish" = some (some (.ref f18))) (l18 : K.lookup f18 = some ⟨oc18, od18, .func (PySem.W.fnOf "finish" "Reader.finish" (defArgs s_Reader_finish) (defBody s_Reader_finish) (defScope s_Reader_finish) .none kV18 dc18 pm18 an18 cd18 ct18), sl18⟩) (c18 : PySem.W.codeIn K cd18 "Reader.finish" = true) (k18 : PySem.W.keepIn K (.ref f18) = true)
    (i18 : PySem.W.isFn K (.ref f18) = true) (t18 : PySem.W.typeIn K (.ref f18) = some (.type "function"))
    {f19 : Addr} {od19 an19 : Option Addr} {sl19 : Array (Option Value)} {oc19 kV19 dc19 pm19 cd19 ct19 : Value}
    (a19 : PySem.W.findIn K (.ref C4) "take_number" = some (some (.ref f19))) (l19 : K.lookup f19 = some ⟨oc19, od19, .func (PySem.W.fnOf "take_number" "Reader.take_number" (defArgs s_Reader_take_number) (defBody s_Reader_take_number) (defScope s_Reader_take_number) .none kV19 dc19 pm19 an19 cd19 ct19), sl19⟩) (c19 : PySem.W.codeIn K cd19 "Reader.take_number" = true) (k19 : PySem.W.keepIn K (.ref f19) = true)
    (i19 : PySem.W.isFn K (.ref f19) = true) (t19 : PySem.W.typeIn K (.ref f19) = some (.type "function"))
    {f20 : Addr} {od20 an20 : Option Addr} {sl20 : Array (Option Value)} {oc20 kV20 dc20 pm20 cd20 ct20 : Value}
    (a20 : PySem.W.findIn K (.ref C4) "take_rest" = some (some (.ref f20))) (l20 : K.lookup f20 = some ⟨oc20, od20, .func (PySem.W.fnOf "take_rest" "Reader.take_rest" (defArgs s_Reader_take_rest) (defBody s_Reader_take_rest) (defScope s_Reader_take_rest) .none kV20 dc20 pm20 an20 cd20 ct20), sl20⟩) (c20 : PySem.W.codeIn K cd20 "Reader.take_rest" = true) (k20 : PySem.W.keepIn K (.ref f20) = true)
    (i20 : PySem.W.isFn K (.ref f20) = true) (t20 : PySem.W.typeIn K (.ref f20) = some (.type "function"))
    {f21 : Addr} {od21 an21 : Option Addr} {sl21 : Array (Option Value)} {oc21 kV21 dc21 pm21 cd21 ct21 : Value}
    (a21 : PySem.W.findIn K (.ref C4) "take_string" = some (some (.ref f21))) (l21 : K.lookup f21 = some ⟨oc21, od21, .func (PySem.W.fnOf "take_string" "Reader.take_string" (defArgs s_Reader_take_string) (defBody s_Reader_take_string) (defScope s_Reader_take_string) .none kV21 dc21 pm21 an21 cd21 ct21), sl21⟩) (c21 : PySem.W.codeIn K cd21 "Reader.take_string" = true) (k21 : PySem.W.keepIn K (.ref f21) = true)
    (i21 : PySem.W.isFn K (.ref f21) = true) (t21 : PySem.W.typeIn K (.ref f21) = some (.type "function"))
    {f22 : Addr} {od22 an22 : Option Addr} {sl22 : Array (Option Value)} {oc22 kV22 dc22 pm22 cd22 ct22 : Value}
    (a22 : PySem.W.findIn K (.ref C4) "take_name" = some (some (.ref f22))) (l22 : K.lookup f22 = some ⟨oc22, od22, .func (PySem.W.fnOf "take_name" "Reader.take_name" (defArgs s_Reader_take_name) (defBody s_Reader_take_name) (defScope s_Reader_take_name) .none kV22 dc22 pm22 an22 cd22 ct22), sl22⟩) (c22 : PySem.W.codeIn K cd22 "Reader.take_name" = true) (k22 : PySem.W.keepIn K (.ref f22) = true)
    (i22 : PySem.W.isFn K (.ref f22) = true) (t22 : PySem.W.typeIn K (.ref f22) = some (.type "function"))
    {f23 : Addr} {od23 an23 : Option Addr} {sl23 : Array (Option Value)} {oc23 kV23 dc23 pm23 cd23 ct23 : Value}
    (a23 : PySem.W.findIn K (.ref C4) "take_value" = some (some (.ref f23))) (l23 : K.lookup f23 = some ⟨oc23, od23, .func (PySem.W.fnOf "take_value" "Reader.take_value" (defArgs s_Reader_take_value) (defBody s_Reader_take_value) (defScope s_Reader_take_value) .none kV23 dc23 pm23 an23 cd23 ct23), sl23⟩) (c23 : PySem.W.codeIn K cd23 "Reader.take_value" = true) (k23 : PySem.W.keepIn K (.ref f23) = true)
    (i23 : PySem.W.isFn K (.ref f23) = true) (t23 : PySem.W.typeIn K (.ref f23) = some (.type "function"))
    {f24 : Addr} {od24 an24 : Option Addr} {sl24 : Array (Option Value)} {oc24 kV24 dc24 pm24 cd24 ct24 : Value}
    (a24 : PySem.W.nsIn K mainGlobals "is_line" = some (some (.ref f24))) (l24 : K.lookup f24 = some ⟨oc24, od24, .func (PySem.W.fnOf "is_line" "is_line" (defArgs s_is_line) (defBody s_is_line) (defScope s_is_line) .none kV24 dc24 pm24 an24 cd24 ct24), sl24⟩) (c24 : PySem.W.codeIn K cd24 "is_line" = true) (k24 : PySem.W.keepIn K (.ref f24) = true)
    {f25 : Addr} {od25 an25 : Option Addr} {sl25 : Array (Option Value)} {oc25 kV25 dc25 pm25 cd25 ct25 : Value}
    (a25 : PySem.W.nsIn K mainGlobals "is_block" = some (some (.ref f25))) (l25 : K.lookup f25 = some ⟨oc25, od25, .func (PySem.W.fnOf "is_block" "is_block" (defArgs s_is_block) (defBody s_is_block) (defScope s_is_block) .none kV25 dc25 pm25 an25 cd25 ct25), sl25⟩) (c25 : PySem.W.codeIn K cd25 "is_block" = true) (k25 : PySem.W.keepIn K (.ref f25) = true)
    {f26 : Addr} {od26 an26 : Option Addr} {sl26 : Array (Option Value)} {oc26 kV26 dc26 pm26 cd26 ct26 : Value}
    (a26 : PySem.W.nsIn K mainGlobals "write_block" = some (some (.ref f26))) (l26 : K.lookup f26 = some ⟨oc26, od26, .func (PySem.W.fnOf "write_block" "write_block" (defArgs s_write_block) (defBody s_write_block) (defScope s_write_block) .none kV26 dc26 pm26 an26 cd26 ct26), sl26⟩) (c26 : PySem.W.codeIn K cd26 "write_block" = true) (k26 : PySem.W.keepIn K (.ref f26) = true)
    {f27 : Addr} {od27 an27 : Option Addr} {sl27 : Array (Option Value)} {oc27 kV27 dc27 pm27 cd27 ct27 : Value}
    (a27 : PySem.W.nsIn K mainGlobals "line_octets" = some (some (.ref f27))) (l27 : K.lookup f27 = some ⟨oc27, od27, .func (PySem.W.fnOf "line_octets" "line_octets" (defArgs s_line_octets) (defBody s_line_octets) (defScope s_line_octets) .none kV27 dc27 pm27 an27 cd27 ct27), sl27⟩) (c27 : PySem.W.codeIn K cd27 "line_octets" = true) (k27 : PySem.W.keepIn K (.ref f27) = true)
    {f28 : Addr} {od28 an28 : Option Addr} {sl28 : Array (Option Value)} {oc28 kV28 dc28 pm28 cd28 ct28 : Value}
    (a28 : PySem.W.nsIn K mainGlobals "whole_octets" = some (some (.ref f28))) (l28 : K.lookup f28 = some ⟨oc28, od28, .func (PySem.W.fnOf "whole_octets" "whole_octets" (defArgs s_whole_octets) (defBody s_whole_octets) (defScope s_whole_octets) .none kV28 dc28 pm28 an28 cd28 ct28), sl28⟩) (c28 : PySem.W.codeIn K cd28 "whole_octets" = true) (k28 : PySem.W.keepIn K (.ref f28) = true)
    {f29 : Addr} {od29 an29 : Option Addr} {sl29 : Array (Option Value)} {oc29 kV29 dc29 pm29 cd29 ct29 : Value}
    (a29 : PySem.W.nsIn K mainGlobals "named_octets" = some (some (.ref f29))) (l29 : K.lookup f29 = some ⟨oc29, od29, .func (PySem.W.fnOf "named_octets" "named_octets" (defArgs s_named_octets) (defBody s_named_octets) (defScope s_named_octets) .none kV29 dc29 pm29 an29 cd29 ct29), sl29⟩) (c29 : PySem.W.codeIn K cd29 "named_octets" = true) (k29 : PySem.W.keepIn K (.ref f29) = true)
    {f30 : Addr} {od30 an30 : Option Addr} {sl30 : Array (Option Value)} {oc30 kV30 dc30 pm30 cd30 ct30 : Value}
    (a30 : PySem.W.nsIn K mainGlobals "read_block" = some (some (.ref f30))) (l30 : K.lookup f30 = some ⟨oc30, od30, .func (PySem.W.fnOf "read_block" "read_block" (defArgs s_read_block) (defBody s_read_block) (defScope s_read_block) .none kV30 dc30 pm30 an30 cd30 ct30), sl30⟩) (c30 : PySem.W.codeIn K cd30 "read_block" = true) (k30 : PySem.W.keepIn K (.ref f30) = true)
    {f31 : Addr} {od31 an31 : Option Addr} {sl31 : Array (Option Value)} {oc31 kV31 dc31 pm31 cd31 ct31 : Value}
    (a31 : PySem.W.nsIn K mainGlobals "take_line" = some (some (.ref f31))) (l31 : K.lookup f31 = some ⟨oc31, od31, .func (PySem.W.fnOf "take_line" "take_line" (defArgs s_take_line) (defBody s_take_line) (defScope s_take_line) .none kV31 dc31 pm31 an31 cd31 ct31), sl31⟩) (c31 : PySem.W.codeIn K cd31 "take_line" = true) (k31 : PySem.W.keepIn K (.ref f31) = true)
    {f32 : Addr} {od32 an32 : Option Addr} {sl32 : Array (Option Value)} {oc32 kV32 dc32 pm32 cd32 ct32 : Value}
    (a32 : PySem.W.nsIn K mainGlobals "take_whole" = some (some (.ref f32))) (l32 : K.lookup f32 = some ⟨oc32, od32, .func (PySem.W.fnOf "take_whole" "take_whole" (defArgs s_take_whole) (defBody s_take_whole) (defScope s_take_whole) .none kV32 dc32 pm32 an32 cd32 ct32), sl32⟩) (c32 : PySem.W.codeIn K cd32 "take_whole" = true) (k32 : PySem.W.keepIn K (.ref f32) = true)
    {f33 : Addr} {od33 an33 : Option Addr} {sl33 : Array (Option Value)} {oc33 kV33 dc33 pm33 cd33 ct33 : Value}
    (a33 : PySem.W.nsIn K mainGlobals "take_named" = some (some (.ref f33))) (l33 : K.lookup f33 = some ⟨oc33, od33, .func (PySem.W.fnOf "take_named" "take_named" (defArgs s_take_named) (defBody s_take_named) (defScope s_take_named) .none kV33 dc33 pm33 an33 cd33 ct33), sl33⟩) (c33 : PySem.W.codeIn K cd33 "take_named" = true) (k33 : PySem.W.keepIn K (.ref f33) = true)
    {f34 : Addr} {od34 an34 : Option Addr} {sl34 : Array (Option Value)} {oc34 kV34 dc34 pm34 cd34 ct34 : Value}
    (a34 : PySem.W.nsIn K mainGlobals "is_instruction" = some (some (.ref f34))) (l34 : K.lookup f34 = some ⟨oc34, od34, .func (PySem.W.fnOf "is_instruction" "is_instruction" (defArgs s_is_instruction) (defBody s_is_instruction) (defScope s_is_instruction) .none kV34 dc34 pm34 an34 cd34 ct34), sl34⟩) (c34 : PySem.W.codeIn K cd34 "is_instruction" = true) (k34 : PySem.W.keepIn K (.ref f34) = true)
    {f35 : Addr} {od35 an35 : Option Addr} {sl35 : Array (Option Value)} {oc35 kV35 dc35 pm35 cd35 ct35 : Value}
    (a35 : PySem.W.nsIn K mainGlobals "write_instruction" = some (some (.ref f35))) (l35 : K.lookup f35 = some ⟨oc35, od35, .func (PySem.W.fnOf "write_instruction" "write_instruction" (defArgs s_write_instruction) (defBody s_write_instruction) (defScope s_write_instruction) .none kV35 dc35 pm35 an35 cd35 ct35), sl35⟩) (c35 : PySem.W.codeIn K cd35 "write_instruction" = true) (k35 : PySem.W.keepIn K (.ref f35) = true)
    {f36 : Addr} {od36 an36 : Option Addr} {sl36 : Array (Option Value)} {oc36 kV36 dc36 pm36 cd36 ct36 : Value}
    (a36 : PySem.W.nsIn K mainGlobals "source_octets" = some (some (.ref f36))) (l36 : K.lookup f36 = some ⟨oc36, od36, .func (PySem.W.fnOf "source_octets" "source_octets" (defArgs s_source_octets) (defBody s_source_octets) (defScope s_source_octets) .none kV36 dc36 pm36 an36 cd36 ct36), sl36⟩) (c36 : PySem.W.codeIn K cd36 "source_octets" = true) (k36 : PySem.W.keepIn K (.ref f36) = true)
    {f37 : Addr} {od37 an37 : Option Addr} {sl37 : Array (Option Value)} {oc37 kV37 dc37 pm37 cd37 ct37 : Value}
    (a37 : PySem.W.nsIn K mainGlobals "read_instruction" = some (some (.ref f37))) (l37 : K.lookup f37 = some ⟨oc37, od37, .func (PySem.W.fnOf "read_instruction" "read_instruction" (defArgs s_read_instruction) (defBody s_read_instruction) (defScope s_read_instruction) .none kV37 dc37 pm37 an37 cd37 ct37), sl37⟩) (c37 : PySem.W.codeIn K cd37 "read_instruction" = true) (k37 : PySem.W.keepIn K (.ref f37) = true)
    {f38 : Addr} {od38 an38 : Option Addr} {sl38 : Array (Option Value)} {oc38 kV38 dc38 pm38 cd38 ct38 : Value}
    (a38 : PySem.W.nsIn K mainGlobals "take_instruction" = some (some (.ref f38))) (l38 : K.lookup f38 = some ⟨oc38, od38, .func (PySem.W.fnOf "take_instruction" "take_instruction" (defArgs s_take_instruction) (defBody s_take_instruction) (defScope s_take_instruction) .none kV38 dc38 pm38 an38 cd38 ct38), sl38⟩) (c38 : PySem.W.codeIn K cd38 "take_instruction" = true) (k38 : PySem.W.keepIn K (.ref f38) = true)
    {f39 : Addr} {od39 an39 : Option Addr} {sl39 : Array (Option Value)} {oc39 kV39 dc39 pm39 cd39 ct39 : Value}
    (a39 : PySem.W.nsIn K mainGlobals "take_source" = some (some (.ref f39))) (l39 : K.lookup f39 = some ⟨oc39, od39, .func (PySem.W.fnOf "take_source" "take_source" (defArgs s_take_source) (defBody s_take_source) (defScope s_take_source) .none kV39 dc39 pm39 an39 cd39 ct39), sl39⟩) (c39 : PySem.W.codeIn K cd39 "take_source" = true) (k39 : PySem.W.keepIn K (.ref f39) = true)
    {f40 : Addr} {od40 an40 : Option Addr} {sl40 : Array (Option Value)} {oc40 kV40 dc40 pm40 cd40 ct40 : Value}
    (a40 : PySem.W.nsIn K mainGlobals "is_answer" = some (some (.ref f40))) (l40 : K.lookup f40 = some ⟨oc40, od40, .func (PySem.W.fnOf "is_answer" "is_answer" (defArgs s_is_answer) (defBody s_is_answer) (defScope s_is_answer) .none kV40 dc40 pm40 an40 cd40 ct40), sl40⟩) (c40 : PySem.W.codeIn K cd40 "is_answer" = true) (k40 : PySem.W.keepIn K (.ref f40) = true)
    {f41 : Addr} {od41 an41 : Option Addr} {sl41 : Array (Option Value)} {oc41 kV41 dc41 pm41 cd41 ct41 : Value}
    (a41 : PySem.W.nsIn K mainGlobals "write_answer" = some (some (.ref f41))) (l41 : K.lookup f41 = some ⟨oc41, od41, .func (PySem.W.fnOf "write_answer" "write_answer" (defArgs s_write_answer) (defBody s_write_answer) (defScope s_write_answer) .none kV41 dc41 pm41 an41 cd41 ct41), sl41⟩) (c41 : PySem.W.codeIn K cd41 "write_answer" = true) (k41 : PySem.W.keepIn K (.ref f41) = true)
    {f42 : Addr} {od42 an42 : Option Addr} {sl42 : Array (Option Value)} {oc42 kV42 dc42 pm42 cd42 ct42 : Value}
    (a42 : PySem.W.nsIn K mainGlobals "read_answer" = some (some (.ref f42))) (l42 : K.lookup f42 = some ⟨oc42, od42, .func (PySem.W.fnOf "read_answer" "read_answer" (defArgs s_read_answer) (defBody s_read_answer) (defScope s_read_answer) .none kV42 dc42 pm42 an42 cd42 ct42), sl42⟩) (c42 : PySem.W.codeIn K cd42 "read_answer" = true) (k42 : PySem.W.keepIn K (.ref f42) = true)
    {f43 : Addr} {od43 an43 : Option Addr} {sl43 : Array (Option Value)} {oc43 kV43 dc43 pm43 cd43 ct43 : Value}
    (a43 : PySem.W.nsIn K mainGlobals "take_answer" = some (some (.ref f43))) (l43 : K.lookup f43 = some ⟨oc43, od43, .func (PySem.W.fnOf "take_answer" "take_answer" (defArgs s_take_answer) (defBody s_take_answer) (defScope s_take_answer) .none kV43 dc43 pm43 an43 cd43 ct43), sl43⟩) (c43 : PySem.W.codeIn K cd43 "take_answer" = true) (k43 : PySem.W.keepIn K (.ref f43) = true)
    {f44 : Addr} {od44 an44 : Option Addr} {sl44 : Array (Option Value)} {oc44 kV44 dc44 pm44 cd44 ct44 : Value}
    (a44 : PySem.W.nsIn K mainGlobals "_law_open" = some (some (.ref f44))) (l44 : K.lookup f44 = some ⟨oc44, od44, .func (PySem.W.fnOf "_law_open" "_law_open" (defArgs s_law_open) (defBody s_law_open) (defScope s_law_open) .none kV44 dc44 pm44 an44 cd44 ct44), sl44⟩) (c44 : PySem.W.codeIn K cd44 "_law_open" = true) (k44 : PySem.W.keepIn K (.ref f44) = true)
    {f45 : Addr} {od45 an45 : Option Addr} {sl45 : Array (Option Value)} {oc45 kV45 dc45 pm45 cd45 ct45 : Value}
    (a45 : PySem.W.nsIn K mainGlobals "_law_spread" = some (some (.ref f45))) (l45 : K.lookup f45 = some ⟨oc45, od45, .func (PySem.W.fnOf "_law_spread" "_law_spread" (defArgs s_law_spread) (defBody s_law_spread) (defScope s_law_spread) .none kV45 dc45 pm45 an45 cd45 ct45), sl45⟩) (c45 : PySem.W.codeIn K cd45 "_law_spread" = true) (k45 : PySem.W.keepIn K (.ref f45) = true)
    {f46 : Addr} {od46 an46 : Option Addr} {sl46 : Array (Option Value)} {oc46 kV46 dc46 pm46 cd46 ct46 : Value}
    (a46 : PySem.W.nsIn K mainGlobals "_law_take" = some (some (.ref f46))) (l46 : K.lookup f46 = some ⟨oc46, od46, .func (PySem.W.fnOf "_law_take" "_law_take" (defArgs s_law_take) (defBody s_law_take) (defScope s_law_take) .none kV46 dc46 pm46 an46 cd46 ct46), sl46⟩) (c46 : PySem.W.codeIn K cd46 "_law_take" = true) (k46 : PySem.W.keepIn K (.ref f46) = true)
    {f47 : Addr} {od47 an47 : Option Addr} {sl47 : Array (Option Value)} {oc47 kV47 dc47 pm47 cd47 ct47 : Value}
    (a47 : PySem.W.nsIn K mainGlobals "_law_one_of" = some (some (.ref f47))) (l47 : K.lookup f47 = some ⟨oc47, od47, .func (PySem.W.fnOf "_law_one_of" "_law_one_of" (defArgs s_law_one_of) (defBody s_law_one_of) (defScope s_law_one_of) .none kV47 dc47 pm47 an47 cd47 ct47), sl47⟩) (c47 : PySem.W.codeIn K cd47 "_law_one_of" = true) (k47 : PySem.W.keepIn K (.ref f47) = true)
    {f48 : Addr} {od48 an48 : Option Addr} {sl48 : Array (Option Value)} {oc48 kV48 dc48 pm48 cd48 ct48 : Value}
    (a48 : PySem.W.nsIn K mainGlobals "_law_signs" = some (some (.ref f48))) (l48 : K.lookup f48 = some ⟨oc48, od48, .func (PySem.W.fnOf "_law_signs" "_law_signs" (defArgs s_law_signs) (defBody s_law_signs) (defScope s_law_signs) .none kV48 dc48 pm48 an48 cd48 ct48), sl48⟩) (c48 : PySem.W.codeIn K cd48 "_law_signs" = true) (k48 : PySem.W.keepIn K (.ref f48) = true)
    {f49 : Addr} {od49 an49 : Option Addr} {sl49 : Array (Option Value)} {oc49 kV49 dc49 pm49 cd49 ct49 : Value}
    (a49 : PySem.W.nsIn K mainGlobals "_law_draw_text" = some (some (.ref f49))) (l49 : K.lookup f49 = some ⟨oc49, od49, .func (PySem.W.fnOf "_law_draw_text" "_law_draw_text" (defArgs s_law_draw_text) (defBody s_law_draw_text) (defScope s_law_draw_text) .none kV49 dc49 pm49 an49 cd49 ct49), sl49⟩) (c49 : PySem.W.codeIn K cd49 "_law_draw_text" = true) (k49 : PySem.W.keepIn K (.ref f49) = true)
    {f50 : Addr} {od50 an50 : Option Addr} {sl50 : Array (Option Value)} {oc50 kV50 dc50 pm50 cd50 ct50 : Value}
    (a50 : PySem.W.nsIn K mainGlobals "_law_draw_number" = some (some (.ref f50))) (l50 : K.lookup f50 = some ⟨oc50, od50, .func (PySem.W.fnOf "_law_draw_number" "_law_draw_number" (defArgs s_law_draw_number) (defBody s_law_draw_number) (defScope s_law_draw_number) .none kV50 dc50 pm50 an50 cd50 ct50), sl50⟩) (c50 : PySem.W.codeIn K cd50 "_law_draw_number" = true) (k50 : PySem.W.keepIn K (.ref f50) = true)
    {f51 : Addr} {od51 an51 : Option Addr} {sl51 : Array (Option Value)} {oc51 kV51 dc51 pm51 cd51 ct51 : Value}
    (a51 : PySem.W.nsIn K mainGlobals "_law_draw_instruction" = some (some (.ref f51))) (l51 : K.lookup f51 = some ⟨oc51, od51, .func (PySem.W.fnOf "_law_draw_instruction" "_law_draw_instruction" (defArgs s_law_draw_instruction) (defBody s_law_draw_instruction) (defScope s_law_draw_instruction) .none kV51 dc51 pm51 an51 cd51 ct51), sl51⟩) (c51 : PySem.W.codeIn K cd51 "_law_draw_instruction" = true) (k51 : PySem.W.keepIn K (.ref f51) = true)
    {f52 : Addr} {od52 an52 : Option Addr} {sl52 : Array (Option Value)} {oc52 kV52 dc52 pm52 cd52 ct52 : Value}
    (a52 : PySem.W.nsIn K mainGlobals "_law_draw_answer" = some (some (.ref f52))) (l52 : K.lookup f52 = some ⟨oc52, od52, .func (PySem.W.fnOf "_law_draw_answer" "_law_draw_answer" (defArgs s_law_draw_answer) (defBody s_law_draw_answer) (defScope s_law_draw_answer) .none kV52 dc52 pm52 an52 cd52 ct52), sl52⟩) (c52 : PySem.W.codeIn K cd52 "_law_draw_answer" = true) (k52 : PySem.W.keepIn K (.ref f52) = true)
    {f53 : Addr} {od53 an53 : Option Addr} {sl53 : Array (Option Value)} {oc53 kV53 dc53 pm53 cd53 ct53 : Value}
    (a53 : PySem.W.nsIn K mainGlobals "_law_draw_line" = some (some (.ref f53))) (l53 : K.lookup f53 = some ⟨oc53, od53, .func (PySem.W.fnOf "_law_draw_line" "_law_draw_line" (defArgs s_law_draw_line) (defBody s_law_draw_line) (defScope s_law_draw_line) .none kV53 dc53 pm53 an53 cd53 ct53), sl53⟩) (c53 : PySem.W.codeIn K cd53 "_law_draw_line" = true) (k53 : PySem.W.keepIn K (.ref f53) = true)
    {f54 : Addr} {od54 an54 : Option Addr} {sl54 : Array (Option Value)} {oc54 kV54 dc54 pm54 cd54 ct54 : Value}
    (a54 : PySem.W.nsIn K mainGlobals "_law_draw_block" = some (some (.ref f54))) (l54 : K.lookup f54 = some ⟨oc54, od54, .func (PySem.W.fnOf "_law_draw_block" "_law_draw_block" (defArgs s_law_draw_block) (defBody s_law_draw_block) (defScope s_law_draw_block) .none kV54 dc54 pm54 an54 cd54 ct54), sl54⟩) (c54 : PySem.W.codeIn K cd54 "_law_draw_block" = true) (k54 : PySem.W.keepIn K (.ref f54) = true)
    {f55 : Addr} {od55 an55 : Option Addr} {sl55 : Array (Option Value)} {oc55 kV55 dc55 pm55 cd55 ct55 : Value}
    (a55 : PySem.W.nsIn K mainGlobals "_law_bent_octets" = some (some (.ref f55))) (l55 : K.lookup f55 = some ⟨oc55, od55, .func (PySem.W.fnOf "_law_bent_octets" "_law_bent_octets" (defArgs s_law_bent_octets) (defBody s_law_bent_octets) (defScope s_law_bent_octets) .none kV55 dc55 pm55 an55 cd55 ct55), sl55⟩) (c55 : PySem.W.codeIn K cd55 "_law_bent_octets" = true) (k55 : PySem.W.keepIn K (.ref f55) = true)
    {f56 : Addr} {od56 an56 : Option Addr} {sl56 : Array (Option Value)} {oc56 kV56 dc56 pm56 cd56 ct56 : Value}
    (a56 : PySem.W.nsIn K mainGlobals "_law_read" = some (some (.ref f56))) (l56 : K.lookup f56 = some ⟨oc56, od56, .func (PySem.W.fnOf "_law_read" "_law_read" (defArgs s_law_read) (defBody s_law_read) (defScope s_law_read) .none kV56 dc56 pm56 an56 cd56 ct56), sl56⟩) (c56 : PySem.W.codeIn K cd56 "_law_read" = true) (k56 : PySem.W.keepIn K (.ref f56) = true)
    {f57 : Addr} {od57 an57 : Option Addr} {sl57 : Array (Option Value)} {oc57 kV57 dc57 pm57 cd57 ct57 : Value}
    (a57 : PySem.W.nsIn K mainGlobals "_law_write" = some (some (.ref f57))) (l57 : K.lookup f57 = some ⟨oc57, od57, .func (PySem.W.fnOf "_law_write" "_law_write" (defArgs s_law_write) (defBody s_law_write) (defScope s_law_write) .none kV57 dc57 pm57 an57 cd57 ct57), sl57⟩) (c57 : PySem.W.codeIn K cd57 "_law_write" = true) (k57 : PySem.W.keepIn K (.ref f57) = true)
    {f58 : Addr} {od58 an58 : Option Addr} {sl58 : Array (Option Value)} {oc58 kV58 dc58 pm58 cd58 ct58 : Value}
    (a58 : PySem.W.nsIn K mainGlobals "law" = some (some (.ref f58))) (l58 : K.lookup f58 = some ⟨oc58, od58, .func (PySem.W.fnOf "law" "law" (defArgs s_law) (defBody s_law) (defScope s_law) .none kV58 dc58 pm58 an58 cd58 ct58), sl58⟩) (c58 : PySem.W.codeIn K cd58 "law" = true) (k58 : PySem.W.keepIn K (.ref f58) = true)
    {tk0 : Tok} (v0 : PySem.W.nsIn K mainGlobals "NUMBER_MOST" = some (some (.int 9999 tk0)))
    {tk1 : Tok} (v1 : PySem.W.nsIn K mainGlobals "STREAM_MOST" = some (some (.int 20 tk1)))
    {tk2 : Tok} (v2 : PySem.W.nsIn K mainGlobals "NAME_MOST" = some (some (.int 20 tk2)))
    {tk3 : Tok} (v3 : PySem.W.nsIn K mainGlobals "VALUE_MOST" = some (some (.int 40 tk3)))
    {tk4 : Tok} (v4 : PySem.W.nsIn K mainGlobals "VALUE_PREFIX" = some (some (.int 7 tk4)))
    {ad5 : Addr} {es5 : Array DictEntry} {nd5 : Nat} (v5 : PySem.W.nsIn K mainGlobals "CHARACTERS" = some (some (.ref ad5))) (w5 : K.lookup ad5 = some ⟨.type "dict", none, .dict es5 nd5, #[]⟩) (e5 : EntI es5.toList chars) (q5 : (ad5 == sysModules) = false)
    {tk6 : Tok} (v6 : PySem.W.nsIn K mainGlobals "LINES_MOST" = some (some (.int 16 tk6)))
    (z0 : PySem.W.nsIn K mainGlobals "all" = some none)
    (z1 : PySem.W.nsIn K mainGlobals "bool" = some none)
    (z2 : PySem.W.nsIn K mainGlobals "enumerate" = some none)
    (z3 : PySem.W.nsIn K mainGlobals "int" = some none)
    (z4 : PySem.W.nsIn K mainGlobals "isinstance" = some none)
    (z5 : PySem.W.nsIn K mainGlobals "len" = some none)
    (z6 : PySem.W.nsIn K mainGlobals "list" = some none)
    (z7 : PySem.W.nsIn K mainGlobals "max" = some none)
    (z8 : PySem.W.nsIn K mainGlobals "min" = some none)
    (z9 : PySem.W.nsIn K mainGlobals "ord" = some none)
    (z10 : PySem.W.nsIn K mainGlobals "range" = some none)
    (z11 : PySem.W.nsIn K mainGlobals "str" = some none)
    (z12 : PySem.W.nsIn K mainGlobals "tuple" = some none)
    : ∃ fd : FuncData, (∀ (s : Shared) (v : Value), BindsTo s fd ⟨[v], []⟩ [("script", v)]) ∧ ∀ base : Heap, K.In base → base.Ns mainGlobals mg → FnOk l.prog w K mg base CX0 12 fa fd ["script"] (spLaw K) := by
  have e := hfa.symm.trans (PySem.W.mg_of X G a58)
  cases e
  have F0 := fun_mk (st := s_NoOctets_init) l0 c0 k0
  have b0 := F0.binds (ps := ["self", "place"]) fun _ _ _ _ _ _ us hl => match us, hl with | [_, _], _ => rfl
  have F1 := fun_mk (st := s_is_between) l1 c1 k1
  have b1 := F1.binds (ps := ["thing", "least", "most"]) fun _ _ _ _ _ _ us hl => match us, hl with | [_, _, _], _ => rfl
  have F2 := fun_mk (st := s_is_number) l2 c2 k2
  have b2 := F2.binds (ps := ["thing"]) fun _ _ _ _ _ _ us hl => match us, hl with | [_], _ => rfl
  have F3 := fun_mk (st := s_is_stream) l3 c3 k3
  have b3 := F3.binds (ps := ["thing"]) fun _ _ _ _ _ _ us hl => match us, hl with | [_], _ => rfl
  have F4 := fun_mk (st := s_is_text) l4 c4 k4
  have b4 := F4.binds (ps := ["thing", "least", "most"]) fun _ _ _ _ _ _ us hl => match us, hl with | [_, _, _], _ => rfl
  have F5 := fun_mk (st := s_is_name) l5 c5 k5
  have b5 := F5.binds (ps := ["thing"]) fun _ _ _ _ _ _ us hl => match us, hl with | [_], _ => rfl
  have F6 := fun_mk (st := s_is_value) l6 c6 k6
  have b6 := F6.binds (ps := ["thing"]) fun _ _ _ _ _ _ us hl => match us, hl with | [_], _ => rfl
  have F7 := fun_mk (st := s_are_octets) l7 c7 k7
  have b7 := F7.binds (ps := ["thing"]) fun _ _ _ _ _ _ us hl => match us, hl with | [_], _ => rfl
  have F8 := fun_mk (st := s_check_octets) l8 c8 k8
  have b8 := F8.binds (ps := ["octets"]) fun _ _ _ _ _ _ us hl => match us, hl with | [_], _ => rfl
  have F9 := fun_mk (st := s_check_prefix) l9 c9 k9
  have b9 := F9.binds (ps := ["prefix", "mark"]) fun _ _ _ _ _ _ us hl => match us, hl with | [_, _], _ => rfl
  have F10 := fun_mk (st := s_prefix_bits) l10 c10 k10
  have b10 := F10.binds (ps := ["prefix"]) fun _ _ _ _ _ _ us hl => match us, hl with | [_], _ => rfl
  have F11 := fun_mk (st := s_number_octets) l11 c11 k11
  have b11 := F11.binds (ps := ["number", "prefix", "mark"]) fun _ _ _ _ _ _ us hl => match us, hl with | [_, _, _], _ => rfl
  have F12 := fun_mk (st := s_string_octets) l12 c12 k12
  have b12 := F12.binds (ps := ["text", "prefix", "mark"]) fun _ _ _ _ _ _ us hl => match us, hl with | [_, _, _], _ => rfl
  have F13 := fun_mk (st := s_value_octets) l13 c13 k13
  have b13 := F13.binds (ps := ["value"]) fun _ _ _ _ _ _ us hl => match us, hl with | [_], _ => rfl
  have F14 := fun_mk (st := s_Reader_init) l14 c14 k14
  have b14 := F14.binds (ps := ["self", "octets"]) fun _ _ _ _ _ _ us hl => match us, hl with | [_, _], _ => rfl
  have F15 := fun_mk (st := s_Reader_at_end) l15 c15 k15
  have b15 := F15.binds (ps := ["self"]) fun _ _ _ _ _ _ us hl => match us, hl with | [_], _ => rfl
  have F16 := fun_mk (st := s_Reader_look) l16 c16 k16
  have b16 := F16.binds (ps := ["self"]) fun _ _ _ _ _ _ us hl => match us, hl with | [_], _ => rfl
  have F17 := fun_mk (st := s_Reader_accept) l17 c17 k17
  have b17 := F17.binds (ps := ["self", "fits"]) fun _ _ _ _ _ _ us hl => match us, hl with | [_, _], _ => rfl
  have F18 := fun_mk (st := s_Reader_finish) l18 c18 k18
  have b18 := F18.binds (ps := ["self"]) fun _ _ _ _ _ _ us hl => match us, hl with | [_], _ => rfl
  have F19 := fun_mk (st := s_Reader_take_number) l19 c19 k19
  have b19 := F19.binds (ps := ["self", "prefix", "mark", "least", "most"]) fun _ _ _ _ _ _ us hl => match us, hl with | [_, _, _, _, _], _ => rfl
  have F20 := fun_mk (st := s_Reader_take_rest) l20 c20 k20
  have b20 := F20.binds (ps := ["self", "most"]) fun _ _ _ _ _ _ us hl => match us, hl with | [_, _], _ => rfl
  have F21 := fun_mk (st := s_Reader_take_string) l21 c21 k21
  have b21 := F21.binds (ps := ["self", "prefix", "mark", "least", "most"]) fun _ _ _ _ _ _ us hl => match us, hl with | [_, _, _, _, _], _ => rfl
  have F22 := fun_mk (st := s_Reader_take_name) l22 c22 k22
  have b22 := F22.binds (ps := ["self", "prefix", "mark"]) fun _ _ _ _ _ _ us hl => match us, hl with | [_, _, _], _ => rfl
  have F23 := fun_mk (st := s_Reader_take_value) l23 c23 k23
  have b23 := F23.binds (ps := ["self"]) fun _ _ _ _ _ _ us hl => match us, hl with | [_], _ => rfl
  have F24 := fun_mk (st := s_is_line) l24 c24 k24
  have b24 := F24.binds (ps := ["thing", "required"]) fun _ _ _ _ _ _ us hl => match us, hl with | [_, _], _ => rfl
  have F25 := fun_mk (st := s_is_block) l25 c25 k25
  have b25 := F25.binds (ps := ["thing"]) fun _ _ _ _ _ _ us hl => match us, hl with | [_], _ => rfl
  have F26 := fun_mk (st := s_write_block) l26 c26 k26
  have b26 := F26.binds (ps := ["block"]) fun _ _ _ _ _ _ us hl => match us, hl with | [_], _ => rfl
  have F27 := fun_mk (st := s_line_octets) l27 c27 k27
  have b27 := F27.binds (ps := ["line", "base"]) fun _ _ _ _ _ _ us hl => match us, hl with | [_, _], _ => rfl
  have F28 := fun_mk (st := s_whole_octets) l28 c28 k28
  have b28 := F28.binds (ps := ["kind", "number", "base"]) fun _ _ _ _ _ _ us hl => match us, hl with | [_, _, _], _ => rfl
  have F29 := fun_mk (st := s_named_octets) l29 c29 k29
  have b29 := F29.binds (ps := ["kind", "number", "base"]) fun _ _ _ _ _ _ us hl => match us, hl with | [_, _, _], _ => rfl
  have F30 := fun_mk (st := s_read_block) l30 c30 k30
  have b30 := F30.binds (ps := ["octets"]) fun _ _ _ _ _ _ us hl => match us, hl with | [_], _ => rfl
  have F31 := fun_mk (st := s_take_line) l31 c31 k31
  have b31 := F31.binds (ps := ["reader", "required", "base"]) fun _ _ _ _ _ _ us hl => match us, hl with | [_, _, _], _ => rfl
  have F32 := fun_mk (st := s_take_whole) l32 c32 k32
  have b32 := F32.binds (ps := ["reader", "required", "base"]) fun _ _ _ _ _ _ us hl => match us, hl with | [_, _, _], _ => rfl
  have F33 := fun_mk (st := s_take_named) l33 c33 k33
  have b33 := F33.binds (ps := ["reader", "required", "base"]) fun _ _ _ _ _ _ us hl => match us, hl with | [_, _, _], _ => rfl
  have F34 := fun_mk (st := s_is_instruction) l34 c34 k34
  have b34 := F34.binds (ps := ["thing"]) fun _ _ _ _ _ _ us hl => match us, hl with | [_], _ => rfl
  have F35 := fun_mk (st := s_write_instruction) l35 c35 k35
  have b35 := F35.binds (ps := ["instruction"]) fun _ _ _ _ _ _ us hl => match us, hl with | [_], _ => rfl
  have F36 := fun_mk (st := s_source_octets) l36 c36 k36
  have b36 := F36.binds (ps := ["kind", "source"]) fun _ _ _ _ _ _ us hl => match us, hl with | [_, _], _ => rfl
  have F37 := fun_mk (st := s_read_instruction) l37 c37 k37
  have b37 := F37.binds (ps := ["octets"]) fun _ _ _ _ _ _ us hl => match us, hl with | [_], _ => rfl
  have F38 := fun_mk (st := s_take_instruction) l38 c38 k38
  have b38 := F38.binds (ps := ["reader"]) fun _ _ _ _ _ _ us hl => match us, hl with | [_], _ => rfl
  have F39 := fun_mk (st := s_take_source) l39 c39 k39
  have b39 := F39.binds (ps := ["reader"]) fun _ _ _ _ _ _ us hl => match us, hl with | [_], _ => rfl
  have F40 := fun_mk (st := s_is_answer) l40 c40 k40
  have b40 := F40.binds (ps := ["thing"]) fun _ _ _ _ _ _ us hl => match us, hl with | [_], _ => rfl
  have F41 := fun_mk (st := s_write_answer) l41 c41 k41
  have b41 := F41.binds (ps := ["answer"]) fun _ _ _ _ _ _ us hl => match us, hl with | [_], _ => rfl
  have F42 := fun_mk (st := s_read_answer) l42 c42 k42
  have b42 := F42.binds (ps := ["octets"]) fun _ _ _ _ _ _ us hl => match us, hl with | [_], _ => rfl
  have F43 := fun_mk (st := s_take_answer) l43 c43 k43
  have b43 := F43.binds (ps := ["reader"]) fun _ _ _ _ _ _ us hl => match us, hl with | [_], _ => rfl
  have F44 := fun_mk (st := s_law_open) l44 c44 k44
  have b44 := F44.binds (ps := ["script"]) fun _ _ _ _ _ _ us hl => match us, hl with | [_], _ => rfl
  have F45 := fun_mk (st := s_law_spread) l45 c45 k45
  have b45 := F45.binds (ps := ["cell", "at"]) fun _ _ _ _ _ _ us hl => match us, hl with | [_, _], _ => rfl
  have F46 := fun_mk (st := s_law_take) l46 c46 k46
  have b46 := F46.binds (ps := ["pen", "amount"]) fun _ _ _ _ _ _ us hl => match us, hl with | [_, _], _ => rfl
  have F47 := fun_mk (st := s_law_one_of) l47 c47 k47
  have b47 := F47.binds (ps := ["pen", "some"]) fun _ _ _ _ _ _ us hl => match us, hl with | [_, _], _ => rfl
  have F48 := fun_mk (st := s_law_signs) l48 c48 k48
  have b48 := F48.binds (ps := []) fun _ _ _ _ _ _ us hl => match us, hl with | [], _ => rfl
  have F49 := fun_mk (st := s_law_draw_text) l49 c49 k49
  have b49 := F49.binds (ps := ["pen", "least", "most"]) fun _ _ _ _ _ _ us hl => match us, hl with | [_, _, _], _ => rfl
  have F50 := fun_mk (st := s_law_draw_number) l50 c50 k50
  have b50 := F50.binds (ps := ["pen"]) fun _ _ _ _ _ _ us hl => match us, hl with | [_], _ => rfl
  have F51 := fun_mk (st := s_law_draw_instruction) l51 c51 k51
  have b51 := F51.binds (ps := ["pen"]) fun _ _ _ _ _ _ us hl => match us, hl with | [_], _ => rfl
  have F52 := fun_mk (st := s_law_draw_answer) l52 c52 k52
  have b52 := F52.binds (ps := ["pen"]) fun _ _ _ _ _ _ us hl => match us, hl with | [_], _ => rfl
  have F53 := fun_mk (st := s_law_draw_line) l53 c53 k53
  have b53 := F53.binds (ps := ["pen", "required"]) fun _ _ _ _ _ _ us hl => match us, hl with | [_, _], _ => rfl
  have F54 := fun_mk (st := s_law_draw_block) l54 c54 k54
  have b54 := F54.binds (ps := ["pen"]) fun _ _ _ _ _ _ us hl => match us, hl with | [_], _ => rfl
  have F55 := fun_mk (st := s_law_bent_octets) l55 c55 k55
  have b55 := F55.binds (ps := ["pen", "octets"]) fun _ _ _ _ _ _ us hl => match us, hl with | [_, _], _ => rfl
  have F56 := fun_mk (st := s_law_read) l56 c56 k56
  have b56 := F56.binds (ps := ["way", "octets"]) fun _ _ _ _ _ _ us hl => match us, hl with | [_, _], _ => rfl
  have F57 := fun_mk (st := s_law_write) l57 c57 k57
  have b57 := F57.binds (ps := ["way", "thing"]) fun _ _ _ _ _ _ us hl => match us, hl with | [_, _], _ => rfl
  have F58 := fun_mk (st := s_law) l58 c58 k58
  have b58 := F58.binds (ps := ["script"]) fun _ _ _ _ _ _ us hl => match us, hl with | [_], _ => rfl
  let T : Txt K mg := {
    f_NoOctets_init := f0
    d_NoOctets_init := _
    F_NoOctets_init := F0
    b_NoOctets_init := b0
    f_is_between := f1
    d_is_between := _
    F_is_between := F1
    b_is_between := b1
    g_is_between := PySem.W.mg_of X G a1
    f_is_number := f2
    d_is_number := _
    F_is_number := F2
    b_is_number := b2
    g_is_number := PySem.W.mg_of X G a2
    f_is_stream := f3
    d_is_stream := _
    F_is_stream := F3
    b_is_stream := b3
    g_is_stream := PySem.W.mg_of X G a3
    f_is_text := f4
    d_is_text := _
    F_is_text := F4
    b_is_text := b4
    g_is_text := PySem.W.mg_of X G a4
    f_is_name := f5
    d_is_name := _
    F_is_name := F5
    b_is_name := b5
    g_is_name := PySem.W.mg_of X G a5
    f_is_value := f6
    d_is_value := _
    F_is_value := F6
    b_is_value := b6
    g_is_value := PySem.W.mg_of X G a6
    f_are_octets := f7
    d_are_octets := _
    F_are_octets := F7
    b_are_octets := b7
    g_are_octets := PySem.W.mg_of X G a7
    f_check_octets := f8
    d_check_octets := _
    F_check_octets := F8
    b_check_octets := b8
    g_check_octets := PySem.W.mg_of X G a8
    f_check_prefix := f9
    d_check_prefix := _
    F_check_prefix := F9
    b_check_prefix := b9
    g_check_prefix := PySem.W.mg_of X G a9
    f_prefix_bits := f10
    d_prefix_bits := _
    F_prefix_bits := F10
    b_prefix_bits := b10
    g_prefix_bits := PySem.W.mg_of X G a10
    f_number_octets := f11
    d_number_octets := _
    F_number_octets := F11
    b_number_octets := b11
    g_number_octets := PySem.W.mg_of X G a11
    f_string_octets := f12
    d_string_octets := _
    F_string_octets := F12
    b_string_octets := b12
    g_string_octets := PySem.W.mg_of X G a12
    f_value_octets := f13
    d_value_octets := _
    F_value_octets := F13
    b_value_octets := b13
    g_value_octets := PySem.W.mg_of X G a13
    f_Reader_init := f14
    d_Reader_init := _
    F_Reader_init := F14
    b_Reader_init := b14
    f_Reader_at_end := f15
    d_Reader_at_end := _
    F_Reader_at_end := F15
    b_Reader_at_end := b15
    f_Reader_look := f16
    d_Reader_look := _
    F_Reader_look := F16
    b_Reader_look := b16
    f_Reader_accept := f17
    d_Reader_accept := _
    F_Reader_accept := F17
    b_Reader_accept := b17
    f_Reader_finish := f18
    d_Reader_finish := _
    F_Reader_finish := F18
    b_Reader_finish := b18
    f_Reader_take_number := f19
    d_Reader_take_number := _
    F_Reader_take_number := F19
    b_Reader_take_number := b19
    f_Reader_take_rest := f20
    d_Reader_take_rest := _
    F_Reader_take_rest := F20
    b_Reader_take_rest := b20
    f_Reader_take_string := f21
    d_Reader_take_string := _
    F_Reader_take_string := F21
    b_Reader_take_string := b21
    f_Reader_take_name := f22
    d_Reader_take_name := _
    F_Reader_take_name := F22
    b_Reader_take_name := b22
    f_Reader_take_value := f23
    d_Reader_take_value := _
    F_Reader_take_value := F23
    b_Reader_take_value := b23
    f_is_line := f24
    d_is_line := _
    F_is_line := F24
    b_is_line := b24
    g_is_line := PySem.W.mg_of X G a24
    f_is_block := f25
    d_is_block := _
    F_is_block := F25
    b_is_block := b25
    g_is_block := PySem.W.mg_of X G a25
    f_write_block := f26
    d_write_block := _
    F_write_block := F26
    b_write_block := b26
    g_write_block := PySem.W.mg_of X G a26
    f_line_octets := f27
    d_line_octets := _
    F_line_octets := F27
    b_line_octets := b27
    g_line_octets := PySem.W.mg_of X G a27
    f_whole_octets := f28
    d_whole_octets := _
    F_whole_octets := F28
    b_whole_octets := b28
    g_whole_octets := PySem.W.mg_of X G a28
    f_named_octets := f29
    d_named_octets := _
    F_named_octets := F29
    b_named_octets := b29
    g_named_octets := PySem.W.mg_of X G a29
    f_read_block := f30
    d_read_block := _
    F_read_block := F30
    b_read_block := b30
    g_read_block := PySem.W.mg_of X G a30
    f_take_line := f31
    d_take_line := _
    F_take_line := F31
    b_take_line := b31
    g_take_line := PySem.W.mg_of X G a31
    f_take_whole := f32
    d_take_whole := _
    F_take_whole := F32
    b_take_whole := b32
    g_take_whole := PySem.W.mg_of X G a32
    f_take_named := f33
    d_take_named := _
    F_take_named := F33
    b_take_named := b33
    g_take_named := PySem.W.mg_of X G a33
    f_is_instruction := f34
    d_is_instruction := _
    F_is_instruction := F34
    b_is_instruction := b34
    g_is_instruction := PySem.W.mg_of X G a34
    f_write_instruction := f35
    d_write_instruction := _
    F_write_instruction := F35
    b_write_instruction := b35
    g_write_instruction := PySem.W.mg_of X G a35
    f_source_octets := f36
    d_source_octets := _
    F_source_octets := F36
    b_source_octets := b36
    g_source_octets := PySem.W.mg_of X G a36
    f_read_instruction := f37
    d_read_instruction := _
    F_read_instruction := F37
    b_read_instruction := b37
    g_read_instruction := PySem.W.mg_of X G a37
    f_take_instruction := f38
    d_take_instruction := _
    F_take_instruction := F38
    b_take_instruction := b38
    g_take_instruction := PySem.W.mg_of X G a38
    f_take_source := f39
    d_take_source := _
    F_take_source := F39
    b_take_source := b39
    g_take_source := PySem.W.mg_of X G a39
    f_is_answer := f40
    d_is_answer := _
    F_is_answer := F40
    b_is_answer := b40
    g_is_answer := PySem.W.mg_of X G a40
    f_write_answer := f41
    d_write_answer := _
    F_write_answer := F41
    b_write_answer := b41
    g_write_answer := PySem.W.mg_of X G a41
    f_read_answer := f42
    d_read_answer := _
    F_read_answer := F42
    b_read_answer := b42
    g_read_answer := PySem.W.mg_of X G a42
    f_take_answer := f43
    d_take_answer := _
    F_take_answer := F43
    b_take_answer := b43
    g_take_answer := PySem.W.mg_of X G a43
    f_law_open := f44
    d_law_open := _
    F_law_open := F44
    b_law_open := b44
    g_law_open := PySem.W.mg_of X G a44
    f_law_spread := f45
    d_law_spread := _
    F_law_spread := F45
    b_law_spread := b45
    g_law_spread := PySem.W.mg_of X G a45
    f_law_take := f46
    d_law_take := _
    F_law_take := F46
    b_law_take := b46
    g_law_take := PySem.W.mg_of X G a46
    f_law_one_of := f47
    d_law_one_of := _
    F_law_one_of := F47
    b_law_one_of := b47
    g_law_one_of := PySem.W.mg_of X G a47
    f_law_signs := f48
    d_law_signs := _
    F_law_signs := F48
    b_law_signs := b48
    g_law_signs := PySem.W.mg_of X G a48
    f_law_draw_text := f49
    d_law_draw_text := _
    F_law_draw_text := F49
    b_law_draw_text := b49
    g_law_draw_text := PySem.W.mg_of X G a49
    f_law_draw_number := f50
    d_law_draw_number := _
    F_law_draw_number := F50
    b_law_draw_number := b50
    g_law_draw_number := PySem.W.mg_of X G a50
    f_law_draw_instruction := f51
    d_law_draw_instruction := _
    F_law_draw_instruction := F51
    b_law_draw_instruction := b51
    g_law_draw_instruction := PySem.W.mg_of X G a51
    f_law_draw_answer := f52
    d_law_draw_answer := _
    F_law_draw_answer := F52
    b_law_draw_answer := b52
    g_law_draw_answer := PySem.W.mg_of X G a52
    f_law_draw_line := f53
    d_law_draw_line := _
    F_law_draw_line := F53
    b_law_draw_line := b53
    g_law_draw_line := PySem.W.mg_of X G a53
    f_law_draw_block := f54
    d_law_draw_block := _
    F_law_draw_block := F54
    b_law_draw_block := b54
    g_law_draw_block := PySem.W.mg_of X G a54
    f_law_bent_octets := f55
    d_law_bent_octets := _
    F_law_bent_octets := F55
    b_law_bent_octets := b55
    g_law_bent_octets := PySem.W.mg_of X G a55
    f_law_read := f56
    d_law_read := _
    F_law_read := F56
    b_law_read := b56
    g_law_read := PySem.W.mg_of X G a56
    f_law_write := f57
    d_law_write := _
    F_law_write := F57
    b_law_write := b57
    g_law_write := PySem.W.mg_of X G a57
    f_law := fa
    d_law := _
    F_law := F58
    b_law := b58
    g_law := PySem.W.mg_of X G a58
    C_FieldError := C0
    m_FieldError := .type "type"
    B_FieldError := ⟨PySem.W.mg_of X G cC0, ⟨rd0, ga0⟩, in0⟩
    R_FieldError := ⟨rb0, rt0, rc0⟩
    C_NoValue := C1
    P_NoValue := ⟨PySem.W.mg_of X G cC1, xC1, kC1, eC1, tC1⟩
    S_NoValue := ⟨eC1, tC1, uC1⟩
    C_NoOctetList := C2
    P_NoOctetList := ⟨PySem.W.mg_of X G cC2, xC2, kC2, eC2, tC2⟩
    S_NoOctetList := ⟨eC2, tC2, uC2⟩
    C_NoOctets := C3
    E_NoOctets := ⟨⟨⟨_, _, _, _, _, _, _, _, _, _, _, _, _, _, _, xL3, rv3⟩, sa3, eC3, tC3, kC3⟩, PySem.W.mg_of X G cC3, a0, t0, nb3⟩
    S_NoOctets := ⟨eC3, tC3, uC3⟩
    C_Reader := C4
    cl_Reader := ⟨pg4, hd4, po4, sa4⟩
    g_Reader := PySem.W.mg_of X G cC4
    M_Reader := ⟨mk4, a14, i14, kC4⟩
    nA_Reader_octets := n4_0
    nA_Reader_place := n4_1
    m_Reader_at_end := ⟨a15, i15, k15⟩
    m_Reader_look := ⟨a16, i16, k16⟩
    m_Reader_accept := ⟨a17, i17, k17⟩
    m_Reader_finish := ⟨a18, i18, k18⟩
    m_Reader_take_number := ⟨a19, i19, k19⟩
    m_Reader_take_rest := ⟨a20, i20, k20⟩
    m_Reader_take_string := ⟨a21, i21, k21⟩
    m_Reader_take_name := ⟨a22, i22, k22⟩
    m_Reader_take_value := ⟨a23, i23, k23⟩
    SE_NoOctets := PySem.W.exm_ref eC3 sd3 tC3 ss3
    t_NUMBER_MOST := tk0
    g_NUMBER_MOST := PySem.W.mg_of X G v0
    t_STREAM_MOST := tk1
    g_STREAM_MOST := PySem.W.mg_of X G v1
    t_NAME_MOST := tk2
    g_NAME_MOST := PySem.W.mg_of X G v2
    t_VALUE_MOST := tk3
    g_VALUE_MOST := PySem.W.mg_of X G v3
    t_VALUE_PREFIX := tk4
    g_VALUE_PREFIX := PySem.W.mg_of X G v4
    a_CHARACTERS := ad5
    g_CHARACTERS := PySem.W.mg_of X G v5
    CHARACTERS_d := ⟨⟨_, _, w5, e5⟩, q5⟩
    t_LINES_MOST := tk6
    g_LINES_MOST := PySem.W.mg_of X G v6
    z_all := PySem.W.mg_none_of X G z0
    z_bool := PySem.W.mg_none_of X G z1
    z_enumerate := PySem.W.mg_none_of X G z2
    z_int := PySem.W.mg_none_of X G z3
    z_isinstance := PySem.W.mg_none_of X G z4
    z_len := PySem.W.mg_none_of X G z5
    z_list := PySem.W.mg_none_of X G z6
    z_max := PySem.W.mg_none_of X G z7
    z_min := PySem.W.mg_none_of X G z8
    z_ord := PySem.W.mg_none_of X G z9
    z_range := PySem.W.mg_none_of X G z10
    z_str := PySem.W.mg_none_of X G z11
    z_tuple := PySem.W.mg_none_of X G z12
  }
  exact ⟨PySem.W.fnOf "law" "law" (defArgs s_law) (defBody s_law) (defScope s_law) .none kV58 dc58 pm58 an58 cd58 ct58, fun s v => .of_eq rfl, fun base _ _ => ok_law T⟩
theorem walk {l : PySem.W.OpenLaw} {q : Program} {loose : List Str} {XP : (Str → Option Value) → Heap → Prop} {YP : World → Heap → Prop} {d : DefRec} {K : Params → PySem.W.Frag} (hn : l.most = some 63) (hdf : d.params.defaults = [])
    (hY : ∀ (w : World) (h : Heap), YP w h → (K w.params).In h)
    (F : ∀ (w : World) (mg : Str → Option Value) (fa : Addr) (h : Heap), (K w.params).In h → h.Ns mainGlobals mg → mg d.name = some (.ref fa) →
      ∃ fd : FuncData, (∀ (s : Shared) (u : Value), BindsTo s fd ⟨[u], []⟩ [("script", u)]) ∧ ∀ base : Heap, (K w.params).In base → base.Ns mainGlobals mg → FnOk l.prog w (K w.params) mg base CX0 12 fa fd ["script"] (spLaw (K w.params))) :
    PySem.W.WalkO q loose XP YP l.row.toRowW d [] (fun f vs => PySem.call f vs) :=
  L2.walk_of (n := 63) (k := 12) (x := "script") (CX := fun _ => CX0) (sp := fun w => spLaw (K w.params)) hn (by decide) hdf ⟨rfl, by decide, by decide⟩ hY F (fun _ _ a ns hl _ hS => ⟨a, ns, rfl, hS, hl, fun _ => rfl⟩) fun _ _ _ _ _ z => z
end Fld
open PySem PySem.W PyProof.Rows
set_option maxRecDepth 100000 in
set_option maxHeartbeats 0 in
theorem PySem.Challenge.cw_fieldtable_k15_whole_octets_holds : PySem.Challenge.rw_fieldtable_k15_whole_octets.Holds := by
  w_on; o_law; k_head; (case hw => w_witness2)
  k_fill
  refine Fld.walk (l := PySem.Challenge.rw_fieldtable_k15_whole_octets) rfl rfl (fun w h Y => PySem.W.kIn_of Y) ?F
  case F =>
    intro w mg fa h KX G hmg
    refine' Fld.all_mk KX G hmg ?cC0 ?rd0 ?ga0 ?in0 ?rb0 ?rt0 ?rc0 ?cC1 ?kC1 ?eC1 ?tC1 ?uC1 ?xC1 ?cC2 ?kC2 ?eC2 ?tC2 ?uC2 ?xC2 ?cC3 ?kC3 ?eC3 ?tC3 ?uC3 ?xL3 ?rv3 ?sa3 ?nb3 ?sd3 ?ss3 ?cC4 ?pg4 ?hd4 ?po4 ?sa4 ?mk4 ?kC4 ?n4_0 ?n4_1 ?a0 ?l0 ?c0 ?k0 ?i0 ?t0 ?a1 ?l1 ?c1 ?k1 ?a2 ?l2 ?c2 ?k2 ?a3 ?l3 ?c3 ?k3 ?a4 ?l4 ?c4 ?k4 ?a5 ?l5 ?c5 ?k5 ?a6 ?l6 ?c6 ?k6 ?a7 ?l7 ?c7 ?k7 ?a8 ?l8 ?c8 ?k8 ?a9 ?l9 ?c9 ?k9 ?a10 ?l10 ?c10 ?k10 ?a11 ?l11 ?c11 ?k11 ?a12 ?l12 ?c12 ?k12 ?a13 ?l13 ?c13 ?k13 ?a14 ?l14 ?c14 ?k14 ?i14 ?t14 ?a15 ?l15 ?c15 ?k15 ?i15 ?t15 ?a16 ?l16 ?c16 ?k16 ?i16 ?t16 ?a17 ?l17 ?c17 ?k17 ?i17 ?t17 ?a18 ?l18 ?c18 ?k18 ?i18 ?t18 ?a19 ?l19 ?c19 ?k19 ?i19 ?t19 ?a20 ?l20 ?c20 ?k20 ?i20 ?t20 ?a21 ?l21 ?c21 ?k21 ?i21 ?t21 ?a22 ?l22 ?c22 ?k22 ?i22 ?t22 ?a23 ?l23 ?c23 ?k23 ?i23 ?t23 ?a24 ?l24 ?c24 ?k24 ?a25 ?l25 ?c25 ?k25 ?a26 ?l26 ?c26 ?k26 ?a27 ?l27 ?c27 ?k27 ?a28 ?l28 ?c28 ?k28 ?a29 ?l29 ?c29 ?k29 ?a30 ?l30 ?c30 ?k30 ?a31 ?l31 ?c31 ?k31 ?a32 ?l32 ?c32 ?k32 ?a33 ?l33 ?c33 ?k33 ?a34 ?l34 ?c34 ?k34 ?a35 ?l35 ?c35 ?k35 ?a36 ?l36 ?c36 ?k36 ?a37 ?l37 ?c37 ?k37 ?a38 ?l38 ?c38 ?k38 ?a39 ?l39 ?c39 ?k39 ?a40 ?l40 ?c40 ?k40 ?a41 ?l41 ?c41 ?k41 ?a42 ?l42 ?c42 ?k42 ?a43 ?l43 ?c43 ?k43 ?a44 ?l44 ?c44 ?k44 ?a45 ?l45 ?c45 ?k45 ?a46 ?l46 ?c46 ?k46 ?a47 ?l47 ?c47 ?k47 ?a48 ?l48 ?c48 ?k48 ?a49 ?l49 ?c49 ?k49 ?a50 ?l50 ?c50 ?k50 ?a51 ?l51 ?c51 ?k51 ?a52 ?l52 ?c52 ?k52 ?a53 ?l53 ?c53 ?k53 ?a54 ?l54 ?c54 ?k54 ?a55 ?l55 ?c55 ?k55 ?a56 ?l56 ?c56 ?k56 ?a57 ?l57 ?c57 ?k57 ?a58 ?l58 ?c58 ?k58 ?v0 ?v1 ?v2 ?v3 ?v4 ?v5 ?w5 ?e5 ?q5 ?v6 ?z0 ?z1 ?z2 ?z3 ?z4 ?z5 ?z6 ?z7 ?z8 ?z9 ?z10 ?z11 ?z12
    (case cC0 => k_is)
    (case rd0 => k_is)
    (case ga0 => k_is)
    (case in0 => k_is)
    (case rb0 => k_is)
    (case rt0 => k_is)
    (case rc0 => k_is)
    (case cC1 => k_is)
    (case kC1 => k_is)
    (case eC1 => k_is)
    (case tC1 => k_is)
    (case uC1 => k_is)
    (case xC1 => k_exc)
    (case cC2 => k_is)
    (case kC2 => k_is)
    (case eC2 => k_is)
    (case tC2 => k_is)
    (case uC2 => k_is)
    (case xC2 => k_exc)
    (case cC3 => k_is)
    (case kC3 => k_is)
    (case eC3 => k_is)
    (case tC3 => k_is)
    (case uC3 => k_is)
    (case xL3 => k_is)
    (case rv3 => first | rfl | decide +kernel)
    (case sa3 => k_is)
    (case nb3 => k_is)
    (case sd3 => k_is)
    (case ss3 => k_is)
    (case cC4 => k_is)
    (case pg4 => k_is)
    (case hd4 => k_is)
    (case po4 => k_is)
    (case sa4 => k_is)
    (case mk4 => k_is)
    (case kC4 => k_is)
    (case n4_0 => k_is)
    (case n4_1 => k_is)
    (case a0 => k_is)
    (case l0 => k_is)
    (case c0 => k_is)
    (case k0 => k_is)
    (case i0 => k_is)
    (case t0 => k_is)
    (case a1 => k_is)
    (case l1 => k_is)
    (case c1 => k_is)
    (case k1 => k_is)
    (case a2 => k_is)
    (case l2 => k_is)
    (case c2 => k_is)
    (case k2 => k_is)
    (case a3 => k_is)
    (case l3 => k_is)
    (case c3 => k_is)
    (case k3 => k_is)
    (case a4 => k_is)
    (case l4 => k_is)
    (case c4 => k_is)
    (case k4 => k_is)
    (case a5 => k_is)
    (case l5 => k_is)
    (case c5 => k_is)
    (case k5 => k_is)
    (case a6 => k_is)
    (case l6 => k_is)
    (case c6 => k_is)
    (case k6 => k_is)
    (case a7 => k_is)
    (case l7 => k_is)
    (case c7 => k_is)
    (case k7 => k_is)
    (case a8 => k_is)
    (case l8 => k_is)
    (case c8 => k_is)
    (case k8 => k_is)
    (case a9 => k_is)
    (case l9 => k_is)
    (case c9 => k_is)
    (case k9 => k_is)
    (case a10 => k_is)
    (case l10 => k_is)
    (case c10 => k_is)
    (case k10 => k_is)
    (case a11 => k_is)
    (case l11 => k_is)
    (case c11 => k_is)
    (case k11 => k_is)
    (case a12 => k_is)
    (case l12 => k_is)
    (case c12 => k_is)
    (case k12 => k_is)
    (case a13 => k_is)
    (case l13 => k_is)
    (case c13 => k_is)
    (case k13 => k_is)
    (case a14 => k_is)
    (case l14 => k_is)
    (case c14 => k_is)
    (case k14 => k_is)
    (case i14 => k_is)
    (case t14 => k_is)
    (case a15 => k_is)
    (case l15 => k_is)
    (case c15 => k_is)
    (case k15 => k_is)
    (case i15 => k_is)
    (case t15 => k_is)
    (case a16 => k_is)
    (case l16 => k_is)
    (case c16 => k_is)
    (case k16 => k_is)
    (case i16 => k_is)
    (case t16 => k_is)
    (case a17 => k_is)
    (case l17 => k_is)
    (case c17 => k_is)
    (case k17 => k_is)
    (case i17 => k_is)
    (case t17 => k_is)
    (case a18 => k_is)
    (case l18 => k_is)
    (case c18 => k_is)
    (case k18 => k_is)
    (case i18 => k_is)
    (case t18 => k_is)
    (case a19 => k_is)
    (case l19 => k_is)
    (case c19 => k_is)
    (case k19 => k_is)
    (case i19 => k_is)
    (case t19 => k_is)
    (case a20 => k_is)
    (case l20 => k_is)
    (case c20 => k_is)
    (case k20 => k_is)
    (case i20 => k_is)
    (case t20 => k_is)
    (case a21 => k_is)
    (case l21 => k_is)
    (case c21 => k_is)
    (case k21 => k_is)
    (case i21 => k_is)
    (case t21 => k_is)
    (case a22 => k_is)
    (case l22 => k_is)
    (case c22 => k_is)
    (case k22 => k_is)
    (case i22 => k_is)
    (case t22 => k_is)
    (case a23 => k_is)
    (case l23 => k_is)
    (case c23 => k_is)
    (case k23 => k_is)
    (case i23 => k_is)
    (case t23 => k_is)
    (case a24 => k_is)
    (case l24 => k_is)
    (case c24 => k_is)
    (case k24 => k_is)
    (case a25 => k_is)
    (case l25 => k_is)
    (case c25 => k_is)
    (case k25 => k_is)
    (case a26 => k_is)
    (case l26 => k_is)
    (case c26 => k_is)
    (case k26 => k_is)
    (case a27 => k_is)
    (case l27 => k_is)
    (case c27 => k_is)
    (case k27 => k_is)
    (case a28 => k_is)
    (case l28 => k_is)
    (case c28 => k_is)
    (case k28 => k_is)
    (case a29 => k_is)
    (case l29 => k_is)
    (case c29 => k_is)
    (case k29 => k_is)
    (case a30 => k_is)
    (case l30 => k_is)
    (case c30 => k_is)
    (case k30 => k_is)
    (case a31 => k_is)
    (case l31 => k_is)
    (case c31 => k_is)
    (case k31 => k_is)
    (case a32 => k_is)
    (case l32 => k_is)
    (case c32 => k_is)
    (case k32 => k_is)
    (case a33 => k_is)
    (case l33 => k_is)
    (case c33 => k_is)
    (case k33 => k_is)
    (case a34 => k_is)
    (case l34 => k_is)
    (case c34 => k_is)
    (case k34 => k_is)
    (case a35 => k_is)
    (case l35 => k_is)
    (case c35 => k_is)
    (case k35 => k_is)
    (case a36 => k_is)
    (case l36 => k_is)
    (case c36 => k_is)
    (case k36 => k_is)
    (case a37 => k_is)
    (case l37 => k_is)
    (case c37 => k_is)
    (case k37 => k_is)
    (case a38 => k_is)
    (case l38 => k_is)
    (case c38 => k_is)
    (case k38 => k_is)
    (case a39 => k_is)
    (case l39 => k_is)
    (case c39 => k_is)
    (case k39 => k_is)
    (case a40 => k_is)
    (case l40 => k_is)
    (case c40 => k_is)
    (case k40 => k_is)
    (case a41 => k_is)
    (case l41 => k_is)
    (case c41 => k_is)
    (case k41 => k_is)
    (case a42 => k_is)
    (case l42 => k_is)
    (case c42 => k_is)
    (case k42 => k_is)
    (case a43 => k_is)
    (case l43 => k_is)
    (case c43 => k_is)
    (case k43 => k_is)
    (case a44 => k_is)
    (case l44 => k_is)
    (case c44 => k_is)
    (case k44 => k_is)
    (case a45 => k_is)
    (case l45 => k_is)
    (case c45 => k_is)
    (case k45 => k_is)
    (case a46 => k_is)
    (case l46 => k_is)
    (case c46 => k_is)
    (case k46 => k_is)
    (case a47 => k_is)
    (case l47 => k_is)
    (case c47 => k_is)
    (case k47 => k_is)
    (case a48 => k_is)
    (case l48 => k_is)
    (case c48 => k_is)
    (case k48 => k_is)
    (case a49 => k_is)
    (case l49 => k_is)
    (case c49 => k_is)
    (case k49 => k_is)
    (case a50 => k_is)
    (case l50 => k_is)
    (case c50 => k_is)
    (case k50 => k_is)
    (case a51 => k_is)
    (case l51 => k_is)
    (case c51 => k_is)
    (case k51 => k_is)
    (case a52 => k_is)
    (case l52 => k_is)
    (case c52 => k_is)
    (case k52 => k_is)
    (case a53 => k_is)
    (case l53 => k_is)
    (case c53 => k_is)
    (case k53 => k_is)
    (case a54 => k_is)
    (case l54 => k_is)
    (case c54 => k_is)
    (case k54 => k_is)
    (case a55 => k_is)
    (case l55 => k_is)
    (case c55 => k_is)
    (case k55 => k_is)
    (case a56 => k_is)
    (case l56 => k_is)
    (case c56 => k_is)
    (case k56 => k_is)
    (case a57 => k_is)
    (case l57 => k_is)
    (case c57 => k_is)
    (case k57 => k_is)
    (case a58 => k_is)
    (case l58 => k_is)
    (case c58 => k_is)
    (case k58 => k_is)
    (case v0 => k_is)
    (case v1 => k_is)
    (case v2 => k_is)
    (case v3 => k_is)
    (case v4 => k_is)
    (case v5 => k_is)
    (case w5 => k_is)
    (case e5 => repeat (first | exact Paired.nil | refine Paired.cons ⟨⟨_, rfl⟩, rfl, ⟨_, rfl⟩⟩ ?_))
    (case q5 => first | rfl | decide +kernel | k_is)
    (case v6 => k_is)
    (case z0 => k_is)
    (case z1 => k_is)
    (case z2 => k_is)
    (case z3 => k_is)
    (case z4 => k_is)
    (case z5 => k_is)
    (case z6 => k_is)
    (case z7 => k_is)
    (case z8 => k_is)
    (case z9 => k_is)
    (case z10 => k_is)
    (case z11 => k_is)
    (case z12 => k_is)
