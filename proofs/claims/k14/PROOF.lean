import PyProof.Rows.All
import Wide.All
import OpenK.AllK
import Wide.FinOn
import HandS.ForMost
import HandS.Star
import HandS.Property
import HandS.ClsMeth
import HandS.IsInst
import HandS.Wide
import HandS.Walk
import HandS.TupAny
import KE.GoesEnum
import HandS.Style
import HandS.Flt
import HandS.Conv
import HandS.TupMul
import HandS.SetBool
import HandS.Strs
import HandS.Flow
import HandS.Codes
import HandS.SortKw
import HandS.Defaults
import KE.DatumOrd
import KE.GoesZip
import HandS.Zip
import HandS.WordsExc
import HandS.FStr
import HandS.ExcValue
import HandS.ExcSuper
import HandS.ExcField
import HandS.MakeKwOnly
import KE.KExcSuper
import KE.KSuper
import HandS.Evl
import PySem.Challenge.RW_chaircarry_k14_known_houses
set_option Elab.async false
set_option linter.all false
set_option maxRecDepth 100000
set_option maxHeartbeats 5000000
/-! Own rules: enumerate over a tuple, list.extend by a tuple, C( *xs), C() by a positional promise. -/
namespace Cc
open PySem PySem.Spec PyProof.Rows L2
/-! ### list.extend(tuple) -/
theorem extend_tup {prog : Program} {w : World} {A : Around} {Ez : Value → Shared → Prop} {s : Shared} {S it : Addr} {o : Obj} {xs items : Array Value} {n c₀ : Nat} {Qz : Fin → Shared → Prop}
    (kS : s.heap.get? S = some { cls := .type "list", data := .seq xs c₀ }) (ko : s.heap.get? it = some o) (kc : o.cls = .type "tuple") (kd : o.data = .seq items n)
    (kne : S ≠ it) (ksz : xs.size + items.size ≤ sizeLine)
    (hQ : Qz (.done (.ret .none)) { s with heap := s.heap.update S (Obj.mapSeq (· ++ items)) }) :
    wpAny (model prog w) A (Builtin.List.listExtendWith (.ref S) (.ref it) .none) Qz Ez s := by
  show wpAny _ A (Builtin.List.listExtendWith _ _ _) Qz Ez s; unfold Builtin.List.listExtendWith
  refine wpAny_bind (wpAny_typeOf ⟨o, ko, kc⟩ ?_)
  have g1 : (Builtin.List.listSameRef (.ref S) (.ref it) || Value.type "tuple" == Value.type "list" || Value.type "tuple" == Value.type "tuple") = true := by simp
  simp only [g1, if_true]
  refine wpAny_bind ?_
  unfold Builtin.List.listItems
  refine wpAny_bind (wpAny_seqItems ko kd (wpAny_pure ?_))
  refine wpAny_bind ?_
  refine wpAny_bind (wpAny_seqItems kS rfl (wpAny_pure ?_))
  have hdoor : (!xs.isEmpty && Builtin.List.listTooLong (xs.size + items.size)) = false := by rw [notLongL ksz, Bool.and_false]
  simp only [hdoor, Bool.false_eq_true, if_false]
  show wpAny _ A (updateSeq S (· ++ items) >>= fun _ => ret Value.none) _ _ s
  refine wpAny_bind (wpAny_updateSeq kS rfl ?_)
  exact wpAny_pure hQ
section
variable {X : Cx}
def rExtendT (K : PySem.W.Frag) : V → List V → Hp → VK → Prop := fun x vs Hh Qz => ∃ l b xs zs, x = .ref l ∧ vs = [.ref b] ∧ Hh l = some (.lst xs) ∧ SqT K Hh b zs ∧ xs.length + zs.length ≤ sizeLine ∧ Qz .non (upd Hh l (.lst (xs ++ zs)))
theorem mt_extendT : MtM X "list.extend" (rExtendT X.K) := by
  intro pz s sg Hh x vs v us Qz J rx rw1 h
  obtain ⟨l, b, xs, zs, rfl, rfl, kH, kB, kz, qz⟩ := h
  cases rx
  obtain ⟨u, rfl, ru⟩ := rw1.one
  cases ru
  obtain ⟨z, vz, n, r, kl, e⟩ := J.lstM kH
  obtain ⟨vz2, r2, ⟨o, ko, kc, n2, kd⟩, kz2⟩ := J.tuple kB
  have hl2 := r2.length
  have kne : l ≠ b := fun qz => by
    subst qz
    rw [e] at ko
    cases ko
    have hc' : Value.type "list" = Value.type "tuple" := kc
    injection hc' with g1
    exact absurd g1 (by decide)
  have ksz : vz.toArray.size + vz2.toArray.size ≤ sizeLine := by rw [List.size_toArray, List.size_toArray]; omega
  refine call_meets (S := fun _ R s' => s' = s ∧ R (.ok (.ret Value.none)) { s with heap := s.heap.update l (Obj.mapSeq fun x => x ++ vz2.toArray) }) F.slot_list_extend ⟨_, e, rfl⟩ F.entry_list_extend (F.args_list_extend_2 _ _) ?_ ⟨rfl, ?_⟩
  · refine .of_wp fun prog w A R s' h => ?_
    obtain ⟨ks, h⟩ := h
    subst ks
    exact extend_tup e ko kc kd kne ksz ⟨_, rfl, h⟩
  · refine ⟨.non, _, J.lset (its' := vz ++ vz2) kH e (by simp) (r.append r2) ?_, rfl, qz⟩
    rw [List.length_append]
    omega
end
/-! ### enumerate(tuple) -/
/-- the enumerate object over the iterator at i -/
abbrev eOb (i : Addr) : Obj := { cls := .type "enumerate", data := .fields #[.none, .bool false, .ref i, rawInt 0, .none, .none] }
theorem meets_enum1 {v : Value} {o : Obj} {Hh : Heap → Prop} (Bz : Begins v o Hh) :
    Meets (Builtin.«enumerate.__new__» ⟨[.type "enumerate", v], []⟩) (fun _ R s => Hh s.heap ∧
      R (.ok (.ret (.ref (s.heap.push o).objs.size))) { s with heap := (s.heap.push o).push (eOb s.heap.objs.size) }) :=
  .of_wp fun pp ww A R s h => by
    obtain ⟨hp, g, d, tk, os⟩ := s; obtain ⟨g1, h⟩ := h
    have hsub := sub_enumerate
    have qz1 : ∀ {A' : Around} {Ez : Value → Shared → Prop} {Qz : Value → Shared → Prop}, Qz (.ref hp.objs.size) ⟨hp.push o, g, d, tk, os⟩ → wpAny (model pp ww) A' (pyIter v) Qz Ez ⟨hp, g, d, tk, os⟩ :=
      fun qz => Bz.iter pp ww _ _ ⟨hp, g, d, tk, os⟩ _ g1 qz
    wp_walk using qz1
    refine wpAny_stack_any fun zs => wpAny_pure ?_
    split
    · rename_i cz _ _ _ _ _
      cases (cz == Value.type "enumerate")
      · wp_walk using qz1
        exact ⟨_, rfl, h⟩
      · wp_walk using qz1
        exact ⟨_, rfl, h⟩
    · wp_walk using qz1
      exact ⟨_, rfl, h⟩
section
variable {prog : Program} {w : World} {A : Around} {Ez : Value → Shared → Prop} {s : Shared}
theorem call_enum1 {v : Value} {o : Obj} {Hh : Heap → Prop} {Qz : Value → Shared → Prop} (Bz : Begins v o Hh) (g1 : Hh s.heap)
    (h : ∀ h', IsEnum h' (s.heap.objs.size + 1) s.heap.objs.size 0 .none → h'.get? s.heap.objs.size = some o → h'.objs.size = s.heap.objs.size + 2 →
      (∀ b o, s.heap.get? b = some o → h'.get? b = some o) → Qz (.ref (s.heap.objs.size + 1)) { s with heap := h' }) :
    wpAny (model prog w) A (call (.type "enumerate") [v]) Qz Ez s := by
  have kz := Heap.size_push s.heap o
  have ke : IsEnum ((s.heap.push o).push (eOb s.heap.objs.size)) (s.heap.objs.size + 1) s.heap.objs.size 0 .none := kz ▸ Heap.get?_push_size (s.heap.push o) (o := eOb s.heap.objs.size) rfl
  refine callType_new F.called_enumerate (by decide)
    (F.typeCall_enumerate_1 _) (F.newCall_enumerate_1 _) (fun z => F.args_object_init_2 z _)
    F.entry_enumerate_new (meets_enum1 Bz) ⟨g1, ?_⟩
  show _ ∧ _
  rw [kz]
  refine ⟨⟨_, ke, rfl⟩, h _ ke (Heap.get?_push_of_some _ (Heap.get?_push_size _ Bz.free)) (by rw [Heap.size_push, kz]) fun b o x => Heap.get?_push_of_some _ (Heap.get?_push_of_some _ x)⟩
end
section
variable {prog : Program} {w : World} {A : Around} {Ez : Value → Shared → Prop} {s : Shared}
theorem pyNext_enum_end {e it t : Addr} {i : Nat} {items : Array Value} {c : Int} {olz : Value} {Qz : Option Value → Shared → Prop} (kx : items[i]? = none)
    (kh : A.in1.handled = none) (ke : IsEnum s.heap e it c olz) (kit : s.heap.IsTupleIter it t i) (ht : s.heap.IsTuple t items)
    (hQ : ∀ h', Heap.ExtBut it s.heap h' → Qz none { s with heap := h' }) : wpAny (model prog w) A (pyNext (.ref e)) Qz Ez s := by
  have kT : s.TypeIs (.ref e) "enumerate" := ⟨_, ke, rfl⟩
  unfold pyNext
  refine wpAny_bind (wpAny_attempt (wpAny_callSpecial?_slot (name := Str.ofString "__next__") kT F.slot_enumerate_next
    (wpAny_call_entry F.slot_enumerate_next kT F.entry_enumerate_next ?_ (F.args_enumerate_next_1 _))))
  show wpAny _ _ (field (Value.ref e) 2 >>= _) _ _ s
  refine wpAny_bind (wpAny_field ke rfl (x := .ref it) rfl ?_)
  refine wpAny_bind (wpAny_nextOf_tuple_end kh kit ht kx fun h' x ke' hx' => ?_)
  obtain ⟨o, ko, kc⟩ := hx'
  refine wpAny_bind (wpAny_isInstance (T := "StopIteration") (b := true) ⟨o, ko, kc⟩ isSubtype_stop ?_)
  exact wpAny_pure (hQ _ ke')
end
/-- the tuple at a, each item in a nw pair -/
def IteT (K : PySem.W.Frag) (a : Addr) : It :=
  ⟨fun i Hh => ∃ (xs : List V) (x : V), SqT K Hh a xs ∧ xs[i]? = some x, fun i Hh v H' => ∃ T x, v = .ref T ∧ Hh T = none ∧ H' = upd Hh T (.tup [.int (i : Nat), x]) ∧ ∀ xs, SqT K Hh a xs → xs[i]? = some x, fun i Hh => ∃ xs : List V, SqT K Hh a xs ∧ xs.length ≤ i⟩
theorem turn_enumT {P : Program} {w : World} {K : PySem.W.Frag} {elts : List Expr} {kk : Nat} {tpos : Pos} (a e it : Addr) :
    Turn P w K (.Tuple elts kk tpos) (IteT K a) [e, it] e (fun i h => (∃ olz, IsEnum h e it ((i : Nat) : Int) olz) ∧ h.IsTupleIter it a i ∧ e ≠ it ∧ a ≠ e ∧ a ≠ it) where
  mem := by simp
  obj := fun i h st b kb => by
    obtain ⟨⟨olz, ke⟩, ⟨o, ko, kc, kd⟩, _⟩ := st
    have ee : b = e ∨ b = it := by simpa using kb
    rcases ee with z | z
    · rw [z]; exact ⟨_, ke, fun v qz => nomatch qz⟩
    · rw [z]; exact ⟨o, ko, fun v qz => by rw [kd] at qz; cases qz⟩
  keep := fun i h h' st k => let ⟨⟨olz, ke⟩, hi, kne⟩ := st; ⟨⟨olz, k e (by simp) _ ke⟩, hi.at fun o qz => k it (by simp) o qz, kne⟩
  item := by
    intro X kP kw kK kc i pz s sg Hh Ez J kf st kg
    subst kP kw kK
    obtain ⟨⟨olz, ke⟩, kit, kne, kae, kai⟩ := st
    obtain ⟨xs, x, kq, kx⟩ := kg
    obtain ⟨vz, rw1, p, kz⟩ := J.tuple kq
    have kel : e < s.heap.objs.size := Heap.lt_size ke
    have kil : it < s.heap.objs.size := by obtain ⟨_, qz, _⟩ := kit; exact Heap.lt_size qz
    have hix : i < vz.toArray.size := by
      have := rw1.length
      have h2 := (List.getElem?_eq_some_iff.mp kx).1
      rw [List.size_toArray]
      omega
    have Dz := Draws.tuple (prog := X.prog) (w := X.w) (A := X.A.in1) (show X.A.in1.handled = none from J.ok.hd kc) it a kai vz.toArray
    refine wpAny_pyNext_enum_itemD Dz ke ⟨kit, p⟩ hix kne (by simp [kne, Ne.symm kae]) fun u h' tk ku ko hit' kT ksz kk => ?_
    have ru : RelV x u := by
      obtain ⟨u2, hu2, r2⟩ := rw1.get kx
      have e3 : u2 = u := by
        have ku' : vz[i]? = some u := by simpa using ku
        exact Option.some.inj (hu2.symm.trans ku')
      exact e3 ▸ r2
    refine ⟨_, rfl, wpAny_letOwnedTupleGo_enum (s := { s with heap := h', toks := tk + 1 }) ko fun h'' ke' sbz => ?_⟩
    have kT2 : h''.get? s.heap.objs.size = some { cls := .type "tuple", data := .seq #[.int i tk, u] } := (sbz.2 _ (Nat.ne_of_gt kel)).trans kT
    have nw : ObjOk X.prog X.w (upd Hh s.heap.objs.size (.tup [.int (i : Nat), x])) h'' s.heap.objs.size (.tup [.int (i : Nat), x]) :=
      ⟨by show 2 ≤ sizeLine; decide, [.int i tk, u], .cons ⟨_, rfl⟩ (.cons ru .nil), ⟨_, kT2, rfl, _, rfl⟩⟩
    have J1 : Inv X pz sg (upd Hh s.heap.objs.size (.tup [.int (i : Nat), x])) { s with heap := h'', toks := tk + 1 } :=
      J.turnedNew (ch := [e, it]) (fun b ob kb qz => (sbz.2 b (fun z => kb (by simp [z]))).trans (kk b ob (fun z => kb (by simp [z])) (fun z => kb (by simp [z])) qz)) kf (Nat.le_refl _) nw
    refine ⟨.ref s.heap.objs.size, _, J1, rfl, ⟨_, x, rfl, J.hok.fresh (Nat.le_refl _), rfl, fun ys hy => by rw [J.tuple_inj hy kq]; exact kx⟩, ⟨⟨u, ?_⟩, hit'.1.at fun o qz => (sbz.2 it (Ne.symm kne)).trans qz, kne, kae, kai⟩, fun b kb => ?_⟩
    · have e1 : (((i + 1 : Nat)) : Int) = (i : Int) + 1 := by omega
      rw [e1]; exact ke'
    · have kb' : b < s.heap.objs.size := by
        have ee : b = e ∨ b = it := by simpa using kb
        rcases ee with z | z
        · rw [z]; exact kel
        · rw [z]; exact kil
      rw [upd_ne (Nat.ne_of_lt kb')]
      exact (kf b kb).1
  done := by
    intro X kP kw kK kc i pz s sg Hh Ez J kf st kg
    subst kP kw kK
    obtain ⟨⟨olz, ke⟩, kit, kne, kae, kai⟩ := st
    obtain ⟨xs, kq, kx⟩ := kg
    obtain ⟨vz, rw1, p, kz⟩ := J.tuple kq
    obtain ⟨f0, f1, f2, f3, f4, f5⟩ := kf it (by simp)
    have hl := rw1.length
    exact pyNext_enum_end (by simp; omega) (show X.A.in1.handled = none from J.ok.hd kc) ke kit p fun h' eb => ⟨rfl, J.turned (t' := s.toks) (fun b o kb qz => eb b o kb qz) f0 f1 f3 f4 f5⟩
  self := fun A i s Qz Ez st h => let ⟨⟨_, ke⟩, _⟩ := st; wpAny_pyIter_enum ke h
def iEnumT (K : PySem.W.Frag) (ta : TA) : TI := fun sg Hh R => ta sg Hh fun vs H1 => ∃ a xs, vs = [.ref a] ∧ SqT K H1 a xs ∧ R (IteT K a) H1
theorem pi_enumT {X : Cx} {e : Expr} {ta : TA} {p pos tpos : Pos} {elts : List Expr} {kk : Nat} (kg : Gl X "enumerate") (km : X.mg "enumerate" = none) (ka : PA X [e] ta) (ks : starEach [e] X.env = [(false, eval e X.env)] := by rfl) :
    PI X (.Tuple elts kk tpos) (.Call (.Name "enumerate" p) [e] [] pos) (iEnumT X.K ta) := by
  refine ⟨fun pz s sg Hh R J h => ?_⟩
  refine Call_ (ld_blt J kg km boot_enumerate (PyProof.Rows.callWith_type1 (thn (ka.run pos pz s sg Hh _ J h) fun us s1 ⟨vs, H1, J1, r1, qz1⟩ => ?_) ks rfl))
  obtain ⟨a, xs, ex, kq, qz⟩ := qz1
  subst ex
  cases r1 with
  | cons r rr =>
    cases rr
    cases r
    obtain ⟨vz, rw1, p', kz⟩ := J1.tuple kq
    have hal : a < s1.heap.objs.size := p'.lt
    refine call_enum1 (begins_tuple a vz.toArray) p' fun h' ke kit ksz kk => wpAny_pyIter_enum ke ?_
    have J2 : Inv X pz sg H1 { s1 with heap := h' } := J1.kept (t' := s1.toks) kk
    refine ⟨s1.heap.objs.size + 1, [s1.heap.objs.size + 1, s1.heap.objs.size], _, _, H1, rfl, J2, turn_enumT a (s1.heap.objs.size + 1) s1.heap.objs.size, ⟨⟨.none, ke⟩, ⟨_, kit, rfl, rfl⟩, Nat.succ_ne_self _, Nat.ne_of_lt (Nat.lt_succ_of_lt hal), Nat.ne_of_lt hal⟩, fun b kb => ?_, qz⟩
    have ee : b = s1.heap.objs.size + 1 ∨ b = s1.heap.objs.size := by simpa using kb
    have kle : s1.heap.objs.size ≤ b := by
      rcases ee with z | z
      · subst z; exact Nat.le_succ _
      · rw [z]; exact Nat.le_refl _
    exact J1.fpOk kle (J1.hok.fresh kle)
theorem walk_enumT {K : PySem.W.Frag} {a : Addr} {xs : List V} : Walk (IteT K a) xs.length (fun Hh => SqT K Hh a xs) (YPair (fun i => some (.int (i : Nat))) (fun i => xs[i]?)) := by
  refine ⟨fun i _ hi qz => ⟨xs, xs[i], qz, by simp [hi]⟩, fun _ qz => ⟨xs, qz, Nat.le_refl _⟩, fun i Hh v H' _ qz y => ?_⟩
  obtain ⟨T, x, g1, g2, g3, g4⟩ := y
  exact ⟨T, .int (i : Nat), x, g1, g2, g3, rfl, g4 xs qz⟩
/-! ### C( *xs), C() by a positional promise -/
def tMakeS (K : PySem.W.Frag) (C : Addr) (sp : Sp) (Ez : XK) (te : TE) : TE := fun sg Hh Qz => te sg Hh fun y H1 => ∃ a xs, y = V.ref a ∧ (SqT K H1 a xs ∨ SqL K H1 a xs) ∧ ∀ x dx, H1 x = Option.none → H1 dx = Option.none → dx ≠ x →
  sp (V.ref x :: xs) (upd (upd H1 dx (.own x)) x (.ins C dx [])) (fun v H2 => v = .non ∧ Qz (.ref x) H2) Ez
section
variable {X : Cx} {CX : CXT} {k : Nat} {f C : Addr} {sp : Sp} {Ez : XK} {x : Str} {e : Expr} {te : TE} {p sp_ pos : Pos}
theorem pe_makeS (M : Mk X.K C f) (F : FnR X.prog X.w X.K X.mg X.base CX k f sp) (kr : Room (k + 1) X.A) (kg : Gl X x) (km : X.mg x = some (.ref C)) (kx : Passes CX X Ez) (ke : PE X e te) (kdb : (x == ("__debug__" : Str)) = false := by decide)
    (kst : starEach [.Starred e sp_] X.env = [(true, eval e X.env)] := by rfl) : PE X (.Call (.Name x p) [.Starred e sp_] [] pos) (tMakeS X.K C sp Ez te) := by
  refine ⟨fun pz s sg Hh Qz J h => ?_⟩
  refine wpAny_Call_Name_kw (ld_glob J kg km ?_ kdb)
  refine PySem.W.callWith_S (h₀ := X.base) J.ok.mod.kin M.kp (thn (ke.run pz s sg Hh _ J h) fun v s1 ⟨y, H1, J1, ry, a, xs, ey, kxs, qz⟩ => ?_) kst
  subst ey
  cases (show v = Value.ref a from ry)
  exact StX.star_any J1 kxs fun us s2 J2 rw1 => ⟨J2.kIn, StX.run_makeR M F kr kx J2 rw1 qz⟩
theorem pe_makeR0 (M : Mk X.K C f) (F : FnR X.prog X.w X.K X.mg X.base CX k f sp) (kr : Room (k + 1) X.A) (kg : Gl X x) (km : X.mg x = some (.ref C)) (kx : Passes CX X Ez) (kdb : (x == ("__debug__" : Str)) = false := by decide) :
    PE X (.Call (.Name x p) [] [] pos) (StX.tMakeR C sp Ez tNil) := by
  refine ⟨fun pz s sg Hh Qz J h => ?_⟩
  refine wpAny_Call_Name_kw (ld_glob J kg km ?_ kdb)
  exact PySem.W.callWith_K0 J.kIn M.kp (StX.run_makeR (us := []) M F kr kx J .nil h)
end
/-! ### f(e, ..) by a positional promise -/
section
variable {X : Cx} {CX : CXT} {k : Nat} {f : Addr} {sp : Sp} {Ez : XK} {x : Str} {e : Expr} {es : List Expr} {t : TA} {p pos : Pos}
theorem pe_callR (F : FnR X.prog X.w X.K X.mg X.base CX k f sp) (kr : Room k X.A) (kg : Gl X x) (km : X.mg x = some (.ref f)) (kk : PySem.W.keepIn X.K (.ref f) = true) (kx : Passes CX X Ez) (ka : PA X (e :: es) t) (kdb : (x == ("__debug__" : Str)) = false := by decide)
    (ke : starEach (e :: es) X.env = (false, eval e X.env) :: starEach es X.env := by rfl) (kpl : (backTo pos (starEach es X.env)).any (·.1) = false := by rfl) :
    PE X (.Call (.Name x p) (e :: es) [] pos) (fun sg Hh Qz => t sg Hh fun vs H1 => sp vs H1 Qz Ez) := by
  refine ⟨fun pz s sg Hh Qz J h => ?_⟩
  refine wpAny_Call_Name_kw (ld_glob J kg km ?_ kdb)
  refine PySem.W.callWith_K (h₀ := X.base) J.ok.mod.kin kk (thn (ka.run pos pz s sg Hh _ J h) fun us s1 ⟨vs, H1, J1, r, qz⟩ => ⟨J1.kIn, ?_⟩) ke kpl
  exact wpAny_call (run_fnR F kr kx J1 r qz)
end
/-- a def of the module as a callee: where it is, that it is kept, vz promise -/
structure Dn (P : Program) (w : World) (K : PySem.W.Frag) (mg : Str → Option Value) (base : Heap) (k : Nat) (x : Str) (f : Addr) (sp : Sp) : Prop where
  at_ : mg x = some (.ref f)
  kp : PySem.W.keepIn K (Value.ref f) = true
  ok : FnR P w K mg base CX0 k f sp
end Cc

/-! The data (steps, plans, the drawing's state over the heap) and the mathematics. -/
namespace Cc
open PySem PySem.Spec PyProof.Rows L2
/-! ### steps -/
inductive Stp where
  | turn
  | meet (red : Bool) (n : Int)
def roomS (b : Bool) : Str := if b then "red" else "blue"
def stpV : Stp → List V
  | .turn => [.str "turn"]
  | .meet b n => [.str (roomS b), .int n]
def Stp.ok (c : Int) : Stp → Prop
  | .turn => True
  | .meet _ n => 0 ≤ n ∧ n ≤ c
theorem Stp.ok.mono {s : Stp} {c d : Int} (h : s.ok c) (hd : c ≤ d) : s.ok d := by
  cases s with
  | turn => trivial
  | meet b n => exact ⟨h.1, Int.le_trans h.2 hd⟩
def mx (i j : Int) : Int := if j > i then j else i
theorem mx_eq (i j : Int) : mx i j = max i j := by unfold mx; omega
/-- what a step leaves in the red room, and carries: the code's own way -/
def stepF (c : Int) (s : Stp) (r : Int) : Int × Int := match s with
  | .turn => (c - r, 0)
  | .meet true n => (r + mx 0 (n - r), mx 0 (n - r))
  | .meet false n => (r - mx 0 (n - (c - r)), mx 0 (n - (c - r)))
/-- steps: the red room, the sum -/
def stepsF (c : Int) : List Stp → Int × Int → Int × Int
  | [], x => x
  | s :: ss, x => stepsF c ss ((stepF c s x.1).1, x.2 + (stepF c s x.1).2)
theorem stepsF_app (c : Int) : ∀ (a b : List Stp) (x : Int × Int), stepsF c (a ++ b) x = stepsF c b (stepsF c a x)
  | [], _, _ => rfl
  | s :: a, b, x => by
    show stepsF c (a ++ b) _ = stepsF c b (stepsF c a _)
    exact stepsF_app c a b _
theorem stepsF_one (c : Int) (a : List Stp) (s : Stp) (x : Int × Int) : stepsF c (a ++ [s]) x = ((stepF c s (stepsF c a x).1).1, (stepsF c a x).2 + (stepF c s (stepsF c a x).1).2) := by
  rw [stepsF_app]
  rfl
theorem stepsF_add (c : Int) : ∀ (a : List Stp) (r t : Int), stepsF c a (r, t) = ((stepsF c a (r, 0)).1, t + (stepsF c a (r, 0)).2)
  | [], r, t => by simp [stepsF]
  | s :: a, r, t => by
    show stepsF c a _ = ((stepsF c a _).1, t + (stepsF c a _).2)
    rw [stepsF_add c a (stepF c s r).1 (t + (stepF c s r).2), stepsF_add c a (stepF c s r).1 (0 + (stepF c s r).2)]
    simp only [Prod.mk.injEq, true_and]
    omega
theorem take_more {α : Type} : ∀ {l : List α} {i : Nat} {x : α}, l[i]? = some x → l.take (i + 1) = l.take i ++ [x]
  | [], i, x, h => by simp at h
  | a :: l, 0, x, h => by
    have e : a = x := Option.some.inj h
    subst e
    rfl
  | a :: l, i + 1, x, h => by
    have ih := take_more (l := l) (i := i) (x := x) h
    show a :: l.take (i + 1) = a :: l.take i ++ [x]
    rw [ih]
    rfl
/-- the red room stays within the house -/
theorem stepF_in {c : Int} {s : Stp} {r : Int} (hs : s.ok c) (h0 : 0 ≤ r) (h1 : r ≤ c) : 0 ≤ (stepF c s r).1 ∧ (stepF c s r).1 ≤ c ∧ 0 ≤ (stepF c s r).2 ∧ (stepF c s r).2 ≤ c := by
  cases s with
  | turn => simp only [stepF]; omega
  | meet b n =>
    obtain ⟨h2, h3⟩ := hs
    cases b <;> simp only [stepF, mx] <;> split <;> omega
theorem stepsF_in {c : Int} : ∀ {ss : List Stp} {r t : Int}, (∀ s ∈ ss, s.ok c) → 0 ≤ r → r ≤ c → 0 ≤ t → 0 ≤ (stepsF c ss (r, t)).1 ∧ (stepsF c ss (r, t)).1 ≤ c ∧ 0 ≤ (stepsF c ss (r, t)).2
  | [], r, t, _, h0, h1, ht => ⟨h0, h1, ht⟩
  | s :: ss, r, t, hs, h0, h1, ht => by
    obtain ⟨a, b, d, _⟩ := stepF_in (hs s List.mem_cons_self) h0 h1
    exact stepsF_in (ss := ss) (fun x hx => hs x (List.mem_cons_of_mem _ hx)) a b (by show 0 ≤ t + (stepF c s r).2; omega)
/-- rounds -/
def roundsF (c : Int) (ss : List Stp) : Nat → Int × Int → Int × Int
  | 0, x => x
  | n + 1, x => roundsF c ss n (stepsF c ss x)
theorem roundsF_succ (c : Int) (ss : List Stp) : ∀ (n : Nat) (x : Int × Int), roundsF c ss (n + 1) x = stepsF c ss (roundsF c ss n x)
  | 0, x => rfl
  | n + 1, x => by
    show roundsF c ss (n + 1) (stepsF c ss x) = _
    rw [roundsF_succ c ss n (stepsF c ss x)]
    rfl
theorem roundsF_in {c : Int} {ss : List Stp} (hs : ∀ s ∈ ss, s.ok c) : ∀ {n : Nat} {r t : Int}, 0 ≤ r → r ≤ c → 0 ≤ t → 0 ≤ (roundsF c ss n (r, t)).1 ∧ (roundsF c ss n (r, t)).1 ≤ c ∧ 0 ≤ (roundsF c ss n (r, t)).2
  | 0, r, t, h0, h1, ht => ⟨h0, h1, ht⟩
  | n + 1, r, t, h0, h1, ht => by
    rw [roundsF_succ]
    obtain ⟨a, b, d⟩ := roundsF_in hs (n := n) h0 h1 ht
    exact stepsF_in hs a b d
/-- behind n rounds -/
def afterF (c : Int) (ss : List Stp) (r : Int) (n : Nat) : Int × Int := roundsF c ss n (r, 0)

/-! ### steps over the heap -/
def StepAt (H : Hp) (v : V) (s : Stp) : Prop := ∃ t, v = .ref t ∧ H t = some (.tup (stpV s))
def Steps (H : Hp) (vs : List V) (ss : List Stp) : Prop := Paired (StepAt H) vs ss
theorem Steps.get {H : Hp} : ∀ {vs : List V} {ss : List Stp} {i : Nat} {v : V}, Steps H vs ss → vs[i]? = some v → ∃ s, ss[i]? = some s ∧ StepAt H v s
  | [], [], i, v, .nil, e => by simp at e
  | _, _, 0, v, .cons r _, e => by
    have e' : _ = v := Option.some.inj e
    subst e'
    exact ⟨_, rfl, r⟩
  | _, _, i + 1, v, .cons _ t, e => by
    obtain ⟨s, h1, h2⟩ := Steps.get (i := i) (v := v) t e
    exact ⟨s, h1, h2⟩
theorem Steps.length {H : Hp} {vs : List V} {ss : List Stp} (h : Steps H vs ss) : vs.length = ss.length := Paired.length h
theorem Steps.append {H : Hp} : ∀ {vs ws : List V} {ss us : List Stp}, Steps H vs ss → Steps H ws us → Steps H (vs ++ ws) (ss ++ us)
  | _, _, _, _, .nil, b => b
  | _, _, _, _, .cons r t, b => .cons r (Steps.append t b)
theorem Steps.mono {H H' : Hp} {vs : List V} {ss : List Stp} (h : Steps H vs ss) (k : ∀ t xs, H t = some (.tup xs) → H' t = some (.tup xs)) : Steps H' vs ss :=
  Paired.mapP h fun _ _ ⟨t, e, q⟩ => ⟨t, e, k t _ q⟩
theorem Steps.same {H H' : Hp} {vs : List V} {ss : List Stp} (h : Steps H vs ss) (k : Same H H') : Steps H' vs ss := h.mono fun t xs e => k t _ e
theorem Steps.get2 {H : Hp} {vs : List V} {ss : List Stp} (h : Steps H vs ss) {i : Nat} {s : Stp} (e : ss[i]? = some s) : ∃ v, vs[i]? = some v ∧ StepAt H v s := by
  have hi : i < vs.length := by rw [h.length]; exact (List.getElem?_eq_some_iff.mp e).1
  obtain ⟨s', h1, h2⟩ := h.get (List.getElem?_eq_getElem hi)
  rw [e] at h1
  cases h1
  exact ⟨_, List.getElem?_eq_getElem hi, h2⟩
/-- a plan -/
def PlanAt (C : Addr) (H : Hp) (p : Addr) (ss : List Stp) : Prop := ∃ dx tp ws, H p = some (.ins C dx [("step_tuple", .ref tp)]) ∧ H tp = some (.tup ws) ∧ Steps H ws ss
theorem PlanAt.same {C : Addr} {H H' : Hp} {p : Addr} {ss : List Stp} (h : PlanAt C H p ss) (k : Same H H') : PlanAt C H' p ss :=
  let ⟨dx, tp, ws, a, b, d⟩ := h
  ⟨dx, tp, ws, k _ _ a, k _ _ b, d.same k⟩
/-- all but what stands at s is as it was -/
def But (s : Addr) (H H' : Hp) : Prop := ∀ b o, b ≠ s → H b = some o → H' b = some o
theorem But.refl (s : Addr) (H : Hp) : But s H H := fun _ _ _ e => e
theorem But.trans {s : Addr} {H H1 H2 : Hp} (a : But s H H1) (b : But s H1 H2) : But s H H2 := fun c o n e => b c o n (a c o n e)
theorem But.of {s : Addr} {H H' : Hp} (a : Same H H') : But s H H' := fun c o _ e => a c o e
/-- a list that nobody writes: locked, or of the written part -/
def SqF (K : PySem.W.Frag) (H : Hp) (a : Addr) (xs : List V) : Prop := (∃ o, H a = some (.frz o (.lst xs))) ∨ SqL K (fun _ => none) a xs
theorem SqF.sq {K : PySem.W.Frag} {H : Hp} {a : Addr} {xs : List V} (h : SqF K H a xs) : SqL K H a xs := by
  rcases h with h | ((h | ⟨o, h⟩) | h)
  · exact .inl (.inr h)
  · cases h
  · cases h
  · exact .inr h
theorem SqF.keep {K : PySem.W.Frag} {H H' : Hp} {a : Addr} {xs : List V} (h : SqF K H a xs) (k : ∀ b o u, H b = some (.frz o u) → H' b = some (.frz o u)) : SqF K H' a xs := by
  rcases h with ⟨o, h⟩ | h
  · exact .inl ⟨o, k _ _ _ h⟩
  · exact .inr h
theorem sqF_of {K : PySem.W.Frag} {H : Hp} {a : Addr} {xs : List V} (h : SqL K H a xs) (o : Only H) : SqF K H a xs := by
  rcases h with (h | h) | h
  · rcases o a with q | ⟨ob, ys, q⟩
    · rw [q] at h
      cases h
    · rw [q] at h
      cases h
  · exact .inl h
  · exact .inr (.inr h)
/-- the drawing's state: a list of the script, a place, two numbers -/
def DrawAt (K : PySem.W.Frag) (H : Hp) (s : Addr) : Prop := ∃ (a : Addr) (ns : List Int) (p x y : Int), H s = some (.lst [.ref a, .int p, .int x, .int y]) ∧ SqF K H a (ns.map V.int) ∧ ns.length ≤ 63 ∧ 0 ≤ p
theorem DrawAt.lst {K : PySem.W.Frag} {H : Hp} {s : Addr} (h : DrawAt K H s) : ∃ xs, H s = some (.lst xs) := let ⟨_, _, _, _, _, e, _⟩ := h; ⟨_, e⟩
theorem DrawAt.same {K : PySem.W.Frag} {H H' : Hp} {s : Addr} (h : DrawAt K H s) (k : Same H H') : DrawAt K H' s :=
  let ⟨a, ns, p, x, y, e, q, l, z⟩ := h
  ⟨a, ns, p, x, y, k _ _ e, q.keep fun b o u e => k b _ e, l, z⟩
/-- .. a list changed elsewhere -/
theorem DrawAt.but {K : PySem.W.Frag} {H H' : Hp} {s l : Addr} (h : DrawAt K H s) (k : But l H H') (hl : ∃ xs, H l = some (.lst xs)) (n : s ≠ l) : DrawAt K H' s :=
  let ⟨a, ns, p, x, y, e, q, z⟩ := h
  ⟨a, ns, p, x, y, k _ _ n e, q.keep fun b o u e => k b _ (let ⟨_, e2⟩ := hl; ne_of e e2 (fun q => nomatch q)) e, z⟩
theorem Steps.but {H H' : Hp} {s : Addr} {vs : List V} {ss : List Stp} (h : Steps H vs ss) (k : But s H H') (hs : ∃ xs, H s = some (.lst xs)) : Steps H' vs ss :=
  h.mono fun t xs e => k t _ (let ⟨_, e2⟩ := hs; ne_of e e2 (fun q => nomatch q)) e
theorem PlanAt.but {C : Addr} {H H' : Hp} {p s : Addr} {ss : List Stp} (h : PlanAt C H p ss) (k : But s H H') (hs : ∃ xs, H s = some (.lst xs)) : PlanAt C H' p ss := by
  obtain ⟨dx, tp, ws, a, b, d⟩ := h
  obtain ⟨ys, e2⟩ := id hs
  exact ⟨dx, tp, ws, k _ _ (ne_of a e2 (fun q => nomatch q)) a, k _ _ (ne_of b e2 (fun q => nomatch q)) b, d.but k hs⟩
theorem same_upd {H : Hp} {p : Addr} {o : HO} (h : H p = none) : Same H (upd H p o) := fun b u e => by
  rw [upd_ne (ne_of_none e h)]
  exact e
theorem but_upd {H : Hp} {p : Addr} {o : HO} : But p H (upd H p o) := fun b u n e => by
  rw [upd_ne n]
  exact e
theorem lk_self {f : Str} {v : V} : List.lookup f [(f, v)] = some v := by simp [List.lookup]
theorem lk_no {f g : Str} {v : V} (h : ¬ (f == g) = true) : List.lookup f [(g, v)] = none := by
  have e : (f == g) = false := by simpa using h
  simp [List.lookup, e]
theorem room_eq (b : Bool) : decide (V.str (roomS b) = V.str "red") = b := by
  cases b <;> decide +kernel
theorem eqv_turn : PyData.eqv (.tuple [.str "turn"]) (.tuple [.str "turn"]) = true := by decide +kernel
theorem eqv_meet (b : Bool) (n : Int) : PyData.eqv (.tuple [.str (roomS b), .int n]) (.tuple [.str "turn"]) = false := by
  cases b <;> simp [PyData.eqv, PyData.eqvAll, roomS]
theorem shaped_meet (b : Bool) (n : Int) : SeqAt.shaped (.tuple [.str (roomS b), .int n]) = true := by
  have h1 : PyData.strOk (roomS b) = true := by cases b <;> decide +kernel
  simp [SeqAt.shaped, PyData.canLay0, PyData.canLayAll0, PyData.depth, PyData.depthAll, h1]
end Cc

namespace Cc
open PySem PySem.Spec PyProof.Rows L2
/-! ### the text by places -/
def top (i : Nat) : Stmt := PySem.Challenge.pw_chaircarry_k14_known_houses.main.body.getD i (.Pass ⟨0, 0, 0, 0⟩)
abbrev sIsNum : Stmt := top 9
abbrev sIsWhole : Stmt := top 8
abbrev sChkNum : Stmt := top 10
abbrev sChkHouse : Stmt := top 11
abbrev sIsStep : Stmt := top 15
abbrev sInit : Stmt := inClass (top 16) 2
abbrev sSteps : Stmt := inClass (top 16) 4
abbrev sJoined : Stmt := inClass (top 16) 6
/-! ### promises -/
def spIsWhole : Sp := fun vs H Q _ => ∃ v : Int, vs = [.int v] ∧ Q (.bl true) H
def spIsNum : Sp := fun vs H Q _ => ∃ (v a b : Int), vs = [.int v, .int a, .int b] ∧ Q (.bl (decide (a ≤ v ∧ v ≤ b))) H
def spChkNum : Sp := fun vs H Q _ => ∃ (v a b : Int), vs = [.int v, .int a, .int b] ∧ a ≤ v ∧ v ≤ b ∧ Q .non H
def spChkHouse (C : Addr) : Sp := fun vs H Q _ => ∃ (p : Addr) (c : Int) (ss : List Stp), vs = [.ref p, .int c] ∧ PlanAt C H p ss ∧ 0 ≤ c ∧ c ≤ 1000000000000000000 ∧ (∀ s ∈ ss, s.ok c) ∧ ss.length ≤ 60 ∧ ∀ H', Same H H' → Q .non H'
def spIsStep : Sp := fun vs H Q _ => ∃ (v : V) (s : Stp), vs = [v] ∧ StepAt H v s ∧ s.ok 1000000000000000000 ∧ ∀ H', Same H H' → Q (.bl true) H'
def spInitS (C : Addr) : Sp := fun vs H Q _ => ∃ (x tp dx : Addr) (ws : List V) (ss : List Stp), vs = [.ref x, .ref tp] ∧ H x = some (.ins C dx []) ∧ H tp = some (.tup ws) ∧ Steps H ws ss ∧ ss.length ≤ 60 ∧ (∀ s ∈ ss, s.ok 1000000000000000000) ∧
  ∀ H', But x H H' → H' x = some (.ins C dx [("step_tuple", .ref tp)]) → Q .non H'
/-- Plan.__init__ by positional values -/
def spInit (C : Addr) : Sp := fun vs H Q _ => ∃ (x dx : Addr) (ws : List V) (ss : List Stp), vs = .ref x :: ws ∧ H x = some (.ins C dx []) ∧ Steps H ws ss ∧ ss.length ≤ 60 ∧ (∀ s ∈ ss, s.ok 1000000000000000000) ∧
  ∀ H' tp, But x H H' → H' x = some (.ins C dx [("step_tuple", .ref tp)]) → H' tp = some (.tup ws) → Q .non H'
def spJoinedS (C : Addr) : Sp := fun vs H Q _ => ∃ (x tp : Addr) (ss : List Stp) (o : Addr) (us : List Stp), vs = [.ref x, .ref tp] ∧ PlanAt C H x ss ∧ H tp = some (.tup [.ref o]) ∧ PlanAt C H o us ∧ (ss ++ us).length ≤ 60 ∧ (∀ s ∈ ss ++ us, s.ok 1000000000000000000) ∧
  ∀ p H', Same H H' → PlanAt C H' p (ss ++ us) → Q (.ref p) H'
def spJoined (C : Addr) : Sp := fun vs H Q _ => ∃ (x : Addr) (ss : List Stp) (o : Addr) (us : List Stp), vs = [.ref x, .ref o] ∧ PlanAt C H x ss ∧ PlanAt C H o us ∧ (ss ++ us).length ≤ 60 ∧ (∀ s ∈ ss ++ us, s.ok 1000000000000000000) ∧
  ∀ p H', Same H H' → PlanAt C H' p (ss ++ us) → Q (.ref p) H'
/-- a def that calls none of the program's: it wants no room of its own -/
theorem fn_low {P : Program} {w : World} {K : PySem.W.Frag} {mg : Str → Option Value} {base : Heap} {x qual : Str} {st : Stmt} {f : Addr} {fd : FuncData} {N ps : List Str} {sp : Sp} (F : Fun K x qual st f fd) (S : FnScope N ps (defScope st)) (len : ∀ vs H Q E, sp vs H Q E → vs.length = ps.length)
    (hb : ∀ (cdv : Value) (A : Around) (outer : List Env) (s : Shared) (H : Hp) (vs : List V) (Q : VK) (E : XK), sp vs H Q E → ∃ t, PSs (cxOf CX0 P w K mg base N qual (defScope st) f cdv A outer s H E).nox (defBody st) t ∧ t { nx := fun _ H' => Q .non H', rt := Q } (start N vs) H) : FnOk P w K mg base CX0 0 f fd ps sp := by
  obtain ⟨oc, od, kV, dc, pm, an, cdv, ct, osl, rfl, lk, hcd⟩ := F.ex
  refine ⟨len, fun A outer s H args us vs Q E hr e0 hbd r hsp => ?_⟩
  have hl := len _ _ _ _ hsp
  have KX : K.In s.heap := e0.mod.kin.keeps (fun b o e => (e0.bs b o e).1)
  have lim := e0.mod.nolimit.keeps (fun b o e => (e0.bs b o e).1)
  have hk : ∀ y ∈ ps.zip us, (defScope st).names.lookup y.1 = some .local ∨ ((defScope st).names.lookup y.1 = some .cell ∧ ((cellsFrom (s.heap.objs.size + 1) (defScope st).names []).lookup y.1).isSome = true) := by
    rintro ⟨n, v⟩ hy
    exact (S.par n (List.of_mem_zip hy).1).imp id fun q => ⟨q, PySem.W.cellsFrom_some _ _ _ (.inl q)⟩
  refine codeAny_call_function hr.depth (KX _ _ lk) rfl S.co S.gen rfl (PySem.W.codeRec_of KX hcd) (hbd _ _ _ _ (wpAny_newFunctionEnv_cells S.kind hk fun env he s1 x => ?_))
  subst he
  obtain ⟨t, ht, hq⟩ := hb cdv A outer s H vs Q E hsp
  refine ⟨lim.keeps (x.toInCall.keep), codeAny_func ?_⟩
  have I : Inv (cxOf CX0 P w K mg base N qual (defScope st) f cdv A outer s H E) [] (start N vs) H s1 := inv_start S hr.hd e0 hl r x
  refine wpAny_mono (ht.nox.run [] s1 (start N vs) H _ I hq) (fun fl s' hs => ?_) fun e s' hs => hs
  match fl, hs with
  | .ret u, ⟨v, σ', H', J, rv, q⟩ => exact ⟨v, H', J.os, J.bare, J.base, J.hok, rv, q⟩
  | .next, ⟨σ', H', J, q⟩ => exact ⟨.non, H', J.os, J.bare, J.base, J.hok, rfl, q⟩
  | .brk, ⟨_, _, _, q⟩ => exact q.elim
  | .cont, ⟨_, _, _, q⟩ => exact q.elim
/-! ### what the top has written -/
structure Bt (mg : Str → Option Value) : Prop where
  isinstance : mg "isinstance" = none
  int : mg "int" = none
  bool : mg "bool" = none
  tuple : mg "tuple" = none
  list : mg "list" = none
  len : mg "len" = none
  max : mg "max" = none
  min : mg "min" = none
  abs : mg "abs" = none
  enumerate : mg "enumerate" = none
  range : mg "range" = none
  sum : mg "sum" = none
  sorted : mg "sorted" = none
  divmod : mg "divmod" = none
  zip : mg "zip" = none
  str : mg "str" = none
structure Txt (K : PySem.W.Frag) (mg : Str → Option Value) (C TU pS gS : Addr) (mc : Value) : Prop where
  b : Bt mg
  cl : Cls K C
  nS : NoAttr K C "step_tuple"
  gP : mg "Plan" = some (.ref C)
  rd : ClX.CRead K C mc
  cs : ∃ u, ClX.CVal K C mc "MAX_STEPS" (.int 60) u
  cc : ∃ u, ClX.CVal K C mc "MAX_CHAIRS" (.int 1000000000000000000) u
  con : ∃ u, Con K C "MAX_CHAIRS" (.int 1000000000000000000) u
  gT : mg "TURN" = some (.ref TU)
  tT : ∀ H, SqT K H TU [.str "turn"]
  pr : PropOf K C "steps" pS gS
section
variable {P : Program} {w : World} {K : PySem.W.Frag} {mg : Str → Option Value} {base : Heap} {C TU pS gS : Addr} {mc : Value}
/-! ### checks -/
theorem scIsWhole : FnScope ["value"] ["value"] (defScope sIsWhole) := ⟨rfl, rfl, rfl, by decide +kernel, rfl, by decide +kernel, by decide +kernel⟩
theorem ok_iswhole {f : Addr} {fd : FuncData} (F : Fun K "is_whole" "is_whole" sIsWhole f fd) (B : Bt mg) : FnOk P w K mg base CX0 0 f fd ["value"] spIsWhole := by
  refine fn_low F scIsWhole (fun vs H Q E h => ?_) (fun cdv A outer s H vs Q E h => ?_)
  · obtain ⟨v, rfl, _⟩ := h
    rfl
  · obtain ⟨v, rfl, k⟩ := h
    refine ⟨_, pss_one (ps_ret (pe_and (pe_callB call_isi (by rfl) B.isinstance (by decide +kernel) (pa_cons (pv 0) (pa_cons (pe_bltn (v := .ty "int") (by rfl) B.int (by decide +kernel) rfl) pa_nil)))
      (pe_one (pe_not (pe_callB call_isi (by rfl) B.isinstance (by decide +kernel) (pa_cons (pv 0) (pa_cons (pe_bltn (v := .ty "bool") (by rfl) B.bool (by decide +kernel) rfl) pa_nil))))))), ?_⟩
    refine ⟨_, rfl, _, _, _, _, true, rfl, .ty "int", .base (.int v), kit_ty (by decide +kernel), true, rfl, ?_⟩
    exact iteT ⟨_, rfl, _, _, _, _, false, rfl, .ty "bool", .base (.int v), kit_ty (by decide +kernel), false, rfl, k⟩
theorem scIsNum : FnScope ["value", "least", "most"] ["value", "least", "most"] (defScope sIsNum) := ⟨rfl, rfl, rfl, by decide +kernel, rfl, by decide +kernel, by decide +kernel⟩
theorem ok_isnum {f fW : Addr} {fd : FuncData} (F : Fun K "is_number" "is_number" sIsNum f fd) (W : Dn P w K mg base 0 "is_whole" fW spIsWhole) : FnOk P w K mg base CX0 1 f fd ["value", "least", "most"] spIsNum := by
  refine F.ok scIsNum (fun vs H Q E h => ?_) (fun cdv A outer s H vs Q E hr h => ?_)
  · obtain ⟨v, a, b, rfl, _⟩ := h
    rfl
  · obtain ⟨v, a, b, rfl, k⟩ := h
    refine ⟨_, pss_one (ps_ret (pe_and (pe_callR W.ok hr rfl W.at_ W.kp pass0 (pa_cons (pv 0) pa_nil))
      (pe_one (pe_chain op_le op_le (pv 1) (pv 0) (pv 2))))), ?_⟩
    refine ⟨_, rfl, v, rfl, true, rfl, ?_⟩
    refine iteT ⟨_, rfl, _, rfl, _, _, rfl, rfl, _, rfl, ?_⟩
    by_cases c : a ≤ v
    · rw [decide_eq_true c]
      refine iteT ⟨_, rfl, _, _, rfl, rfl, ?_⟩
      have e : decide (v ≤ b) = decide (a ≤ v ∧ v ≤ b) := by simp [c]
      show Q (V.bl (decide (v ≤ b))) H
      rw [e]
      exact k
    · rw [if_neg (by simp [c])]
      have e : (false : Bool) = decide (a ≤ v ∧ v ≤ b) := by simp [c]
      show Q (V.bl false) H
      rw [e]
      exact k
theorem scChkNum : FnScope ["value", "least", "most"] ["value", "least", "most"] (defScope sChkNum) := ⟨rfl, rfl, rfl, by decide +kernel, rfl, by decide +kernel, by decide +kernel⟩
theorem ok_chknum {f fN : Addr} {fd : FuncData} (F : Fun K "check_number" "check_number" sChkNum f fd) (N : Dn P w K mg base 1 "is_number" fN spIsNum) : FnOk P w K mg base CX0 2 f fd ["value", "least", "most"] spChkNum := by
  refine F.ok scChkNum (fun vs H Q E h => ?_) (fun cdv A outer s H vs Q E hr h => ?_)
  · obtain ⟨v, a, b, rfl, _⟩ := h
    rfl
  · obtain ⟨v, a, b, rfl, h1, h2, k⟩ := h
    refine ⟨_, pss_one (ps_if (pt_not (pt_val (pe_callR N.ok hr rfl N.at_ N.kp pass0 (pa_cons (pv 0) (pa_cons (pv 1) (pa_cons (pv 2) pa_nil)))))) (pss_one ps_never) pss_nil), ?_⟩
    refine ⟨_, rfl, _, rfl, _, rfl, v, a, b, rfl, _, rfl, ?_⟩
    rw [decide_eq_true (show a ≤ v ∧ v ≤ b from ⟨h1, h2⟩)]
    exact iteF k
/-! ### the plan's own -/
theorem scSteps : FnScope ["self"] ["self"] (defScope sSteps) := ⟨rfl, rfl, rfl, by decide +kernel, rfl, by decide +kernel, by decide +kernel⟩
theorem ok_steps {f : Addr} {fd : FuncData} (F : Fun K "steps" "Plan.steps" sSteps f fd) (T : Txt K mg C TU pS gS mc) : FnOk P w K mg base CX0 1 f fd ["self"] (getSp C "step_tuple") := by
  refine F.ok scSteps (fun vs H Q E h => ?_) (fun cdv A outer s H vs Q E hr h => ?_)
  · obtain ⟨a, dx, fs, v, rfl, _⟩ := h
    rfl
  · obtain ⟨a, dx, fs, v, rfl, h1, h2, k⟩ := h
    exact ⟨_, pss_one (ps_ret (pe_fld (pv 0) rfl)), _, rfl, a, C, dx, fs, v, rfl, h1, T.cl, T.nS, h2, k⟩
/-- e.steps, e a plan -/
structure Gs (P : Program) (w : World) (K : PySem.W.Frag) (mg : Str → Option Value) (base : Heap) (C gS : Addr) (fd : FuncData) : Prop where
  ok : FnOk P w K mg base CX0 1 gS fd ["self"] (getSp C "step_tuple")
  b : Binds K fd ["self"] []
theorem scChkHouse : FnScope ["plan", "chairs", "index", "step"] ["plan", "chairs"] (defScope sChkHouse) := ⟨rfl, rfl, rfl, by decide +kernel, rfl, by decide +kernel, by decide +kernel⟩
theorem ok_chkhouse {f fN : Addr} {fd fdS : FuncData} (F : Fun K "check_house" "check_house" sChkHouse f fd) (T : Txt K mg C TU pS gS mc) (G : Gs P w K mg base C gS fdS) (N : Dn P w K mg base 2 "check_number" fN spChkNum) :
    FnOk P w K mg base CX0 3 f fd ["plan", "chairs"] (spChkHouse C) := by
  refine F.ok scChkHouse (fun vs H Q E h => ?_) (fun cdv A outer s H vs Q E hr h => ?_)
  · obtain ⟨p, c, ss, rfl, _⟩ := h
    rfl
  · obtain ⟨p, c, ss, rfl, hp, h0, h1, hs, hl, k⟩ := h
    obtain ⟨dx, tp, ws, e1, e2, e3⟩ := id hp
    obtain ⟨u, hu⟩ := T.con
    refine ⟨_, pss_cons (ps_expr (pe_callR N.ok hr rfl N.at_ N.kp pass0 (pa_cons (pv 1) (pa_cons pe_int (pa_cons (pe_con (pv 0) rfl) pa_nil)))))
      (pss_one (ps_for PassesOwn.never rfl (pi_enumT (by rfl) T.b.enumerate (pa_cons (pe_prop (pv 0) T.cl T.pr G.ok hr G.b .nil pass0 rfl) pa_nil))
        (pg_tup rfl (pgs_cons (pg_name (i := 2) scChkHouse.nd rfl (.inl rfl)) (pgs_cons (pg_name (i := 3) scChkHouse.nd rfl (.inl rfl)) pgs_nil)))
        (pss_one (ps_if (PW.pt (pw_and (pt_cmpR op_eq (pe_callB call_len (by rfl) T.b.len PySem.boot_len (pa_cons (pv 3) pa_nil)) pe_int (nomark _))
          (pw_and1 (pt_cmpR op_gt (pe_ix ix_tup (pv 3) pe_int (fun _ _ => rfl)) (pv 1) (nomark _))))) (pss_one ps_never) pss_nil)))), ?_⟩
    refine ⟨_, rfl, _, rfl, p, C, dx, _, _, u, rfl, e1, T.cl, hu, lk_no (by decide +kernel), c, 0, _, rfl, h0, h1, ?_⟩
    refine ⟨_, rfl, p, dx, _, rfl, e1, p, dx, _, _, rfl, e1, lk_self, tp, ws, rfl, SqT.of e2, ?_⟩
    refine for_it (walk_enumT (xs := ws)) (fun i σ H' => ∃ a b, σ = [some (.ref p), some (.int c), a, b] ∧ Same H H') ⟨none, none, rfl, Same.refl H⟩ (fun i σ H' _ ⟨_, _, _, s1⟩ => SqT.of (s1 _ _ e2)) ?_ ?_
    · rintro i x σ H1 H2 hi ⟨a, b, rfl, s1⟩ ⟨q, y1, y2, rfl, n1, rfl, z1, z2⟩
      obtain ⟨st, hst, t, rfl, ht⟩ := e3.get z2
      have okst := hs st (List.mem_of_getElem? hst)
      have s2 : Same H (upd H1 q (.tup [y1, .ref t])) := s1.trans (same_upd n1)
      have ht2 := s2 _ _ ht
      refine ⟨q, _, rfl, SqT.of upd_same, rfl, _, _, rfl, _, _, rfl, rfl, ?_⟩
      refine ⟨_, rfl, _, _, rfl, .inr ⟨_, SqT.of ht2, rfl⟩, rfl, ?_⟩
      cases st with
      | turn =>
        refine ⟨_, rfl, ?_⟩
        refine iteF ?_
        exact iteF ⟨_, _, rfl, s2⟩
      | meet bb n =>
        refine ⟨_, rfl, iteT ⟨_, rfl, t, _, _, _, rfl, rfl, SqT.of ht2, at_of (j := 1) rfl rfl, _, rfl, _, _, rfl, rfl, _, rfl, ?_⟩⟩
        rw [decide_eq_false (show ¬ c < n from Int.not_lt.mpr okst.2)]
        exact iteF ⟨_, _, rfl, s2⟩
    · rintro σ H' ⟨a, b, rfl, s1⟩
      exact k H' s1
/-! ### is_step, Plan( *steps), joined -/
theorem scIsStep : FnScope ["step"] ["step"] (defScope sIsStep) := ⟨rfl, rfl, rfl, by decide +kernel, rfl, by decide +kernel, by decide +kernel⟩
theorem ok_isstep {f fN : Addr} {fd : FuncData} (F : Fun K "is_step" "is_step" sIsStep f fd) (T : Txt K mg C TU pS gS mc) (N : Dn P w K mg base 1 "is_number" fN spIsNum) : FnOk P w K mg base CX0 2 f fd ["step"] spIsStep := by
  refine F.ok scIsStep (fun vs H Q E h => ?_) (fun cdv A outer s H vs Q E hr h => ?_)
  · obtain ⟨v, s, rfl, _⟩ := h
    rfl
  · obtain ⟨v, st, rfl, ⟨t, rfl, ht⟩, ok, k⟩ := h
    obtain ⟨u, hu⟩ := T.cc
    refine ⟨_, pss_cons (ps_if (pt_not (pt_val (pe_callB call_isi (by rfl) T.b.isinstance (by decide +kernel) (pa_cons (pv 0) (pa_cons (pe_bltn (v := .ty "tuple") (by rfl) T.b.tuple (by decide +kernel) rfl) pa_nil))))) (pss_one (ps_ret pe_bl)) pss_nil)
      (pss_cons (ps_if (pt_cmpR op_eq (pe_callB call_len (by rfl) T.b.len PySem.boot_len (pa_cons (pv 0) pa_nil)) pe_int (nomark _))
        (pss_one (ps_ret (pe_and (pe_cmpR op_in_seq (pe_ix ix_tup (pv 0) pe_int (fun _ _ => rfl)) (pe_tup (pa_cons pe_str (pa_cons pe_str pa_nil))) (by rfl))
          (pe_one (pe_callR N.ok hr rfl N.at_ N.kp pass0 (pa_cons (pe_ix ix_tup (pv 0) pe_int (fun _ _ => rfl)) (pa_cons pe_int (pa_cons (ClX.pe_cval (pe_glob (v := .ref C) rfl T.gP rfl)) pa_nil)))))))) pss_nil)
      (pss_one (ps_ret (pe_cmpR (op_eqD hr.units) (pv 0) (pe_glob (v := .ref TU) rfl T.gT rfl) (nomark _))))), ?_⟩
    refine ⟨_, rfl, _, _, _, _, true, rfl, .ty "tuple", .base (.tup ht), kit_ty (by decide +kernel), true, rfl, ?_⟩
    refine iteF ?_
    refine ⟨_, rfl, _, _, rfl, .inr ⟨_, SqT.of ht, rfl⟩, rfl, ?_⟩
    cases st with
    | turn =>
      refine ⟨_, rfl, iteF ?_⟩
      refine ⟨_, rfl, .tuple [.str "turn"], .tuple [.str "turn"], .tup (SqT.of ht) (.cons (.str _) .nil), .tup (T.tT _) (.cons (.str _) .nil), by decide +kernel, by decide +kernel, ?_⟩
      have e : PyData.eqv (.tuple [.str "turn"]) (.tuple [.str "turn"]) = true := by decide +kernel
      rw [e]
      exact k H (Same.refl H)
    | meet bb n =>
      refine ⟨_, rfl, iteT ?_⟩
      refine ⟨_, rfl, t, _, _, _, rfl, rfl, SqT.of ht, at_of (j := 0) rfl rfl, by show 2 ≤ sizeLine; decide, fun p hp => ?_⟩
      have s1 : Same H (upd H p (.tup [.str "red", .str "blue"])) := same_upd hp
      refine ⟨p, _, rfl, .inr (SqT.of upd_same), rfl, by decide, _, rfl, ?_⟩
      have e : inV (.str (roomS bb)) [.str "red", .str "blue"] = true := by cases bb <;> decide +kernel
      rw [e]
      refine iteT ⟨_, rfl, t, _, _, _, rfl, rfl, SqT.of (s1 _ _ ht), at_of (j := 1) rfl rfl, C, mc, _, u, rfl, T.rd, hu, n, 0, _, rfl, ?_⟩
      rw [decide_eq_true (show (0 : Int) ≤ n ∧ n ≤ 1000000000000000000 from ok)]
      exact k _ s1
theorem scInit : FnScope ["self", "steps", "index", "step"] ["self", "steps"] (defScope sInit) := ⟨rfl, rfl, rfl, by decide +kernel, rfl, by decide +kernel, by decide +kernel⟩
theorem ok_init {f fS : Addr} {fd : FuncData} (F : Fun K "__init__" "Plan.__init__" sInit f fd) (T : Txt K mg C TU pS gS mc) (N : Dn P w K mg base 2 "is_step" fS spIsStep) : FnR P w K mg base CX0 3 f (spInit C) := by
  obtain ⟨z1, z2, z3, z4, z5, z6, cdv, z7, z8, rfl, lk, hcd⟩ := F.ex
  refine (StX.fn_star (ps := ["self"]) (pv := "steps") (sp := spInitS C) (k := 2) lk hcd scInit StX.cxUp_none (StX.bind_star1 (B := fun us => bindArgs _ ⟨us, []⟩) (fun _ => rfl) (fun _ _ _ => rfl)) fun A outer s H vs Q E hr h => ?_).imp fun vs H Q E h => ?_
  · obtain ⟨x, tp, dx, ws, ss, rfl, e1, e2, e3, hl, hs, k⟩ := h
    obtain ⟨u, hu⟩ := T.cs
    suffices h : ∃ t, PSs (cxOf CX0 P w K mg base ["self", "steps", "index", "step"] "Plan.__init__" (defScope sInit) f cdv A outer s H E).nox (defBody sInit) t ∧ t { nx := fun _ H' => Q .non H', rt := Q } (start ["self", "steps", "index", "step"] [.ref x, .ref tp]) H by
      obtain ⟨t, h1, h2⟩ := h
      exact ⟨t, h1.nox, h2⟩
    refine ⟨_, pss_cons (ps_for PassesOwn.never rfl (pi_enumT (by rfl) T.b.enumerate (pa_cons (pv 1) pa_nil))
        (pg_tup rfl (pgs_cons (pg_name (i := 2) scInit.nd rfl (.inl rfl)) (pgs_cons (pg_name (i := 3) scInit.nd rfl (.inl rfl)) pgs_nil)))
        (pss_one (ps_if (PW.pt (pw_or (pt_cmpR op_eq (pv 2) (ClX.pe_cval (pe_glob (v := .ref C) rfl T.gP rfl)) (nomark _))
          (pw_or1 (pt_not (pt_val (pe_callR N.ok hr rfl N.at_ N.kp pass0 (pa_cons (pv 3) pa_nil))))))) (pss_one ps_never) pss_nil)))
      (pss_one (ps_fld (pv 0) (pv 1) rfl)), ?_⟩
    refine ⟨_, rfl, tp, ws, rfl, SqT.of e2, ?_⟩
    refine for_it (walk_enumT (xs := ws)) (fun i σ H' => ∃ a b, σ = [some (.ref x), some (.ref tp), a, b] ∧ Same H H') ⟨none, none, rfl, Same.refl H⟩ (fun i σ H' _ ⟨_, _, _, s1⟩ => SqT.of (s1 _ _ e2)) ?_ ?_
    · rintro i v σ H1 H2 hi ⟨a, b, rfl, s1⟩ ⟨q, y1, y2, rfl, n1, rfl, z1, z2⟩
      obtain ⟨st, hst, t, rfl, ht⟩ := e3.get z2
      have okst := hs st (List.mem_of_getElem? hst)
      have s2 : Same H (upd H1 q (.tup [y1, .ref t])) := s1.trans (same_upd n1)
      have ht2 := s2 _ _ ht
      cases z1
      refine ⟨q, _, rfl, SqT.of upd_same, rfl, _, _, rfl, _, _, rfl, rfl, ?_⟩
      have hi' : i < 60 := by rw [e3.length] at hi; omega
      refine ⟨_, rfl, C, mc, _, u, rfl, T.rd, hu, rfl, _, rfl, ?_⟩
      rw [decide_eq_false (show ¬ V.int (i : Int) = V.int 60 from fun z => by injection z with z; omega)]
      refine iteF ?_
      refine ⟨_, rfl, _, st, rfl, ⟨t, rfl, ht2⟩, okst, fun H3 s3 => ⟨_, rfl, ?_⟩⟩
      exact iteF ⟨_, _, rfl, s2.trans s3⟩
    · rintro σ H' ⟨a, b, rfl, s1⟩
      refine ⟨_, rfl, _, rfl, x, C, dx, _, rfl, s1 _ _ e1, T.cl, T.nS, (by show 0 < 1000; decide), ?_⟩
      exact k _ (fun b o n e => by rw [upd_ne n]; exact s1 _ _ e) upd_same
  · obtain ⟨x, dx, ws, ss, rfl, e1, e3, hl, hs, k⟩ := h
    refine ⟨[.ref x], ws, rfl, rfl, ?_, fun p hp => ?_⟩
    · rw [e3.length]
      exact Nat.le_trans hl (by decide)
    · have s1 : Same H (upd H p (.tup ws)) := same_upd hp
      refine ⟨x, p, dx, ws, ss, rfl, s1 _ _ e1, upd_same, e3.same s1, hl, hs, fun H' b1 b2 => ?_⟩
      exact k H' p (fun b o n e => b1 b o n (s1 _ _ e)) b2 (b1 _ _ (ne_of_none e1 hp).symm upd_same)
theorem scJoined : FnScope ["self", "others", "steps", "other"] ["self", "others"] (defScope sJoined) := ⟨rfl, rfl, rfl, by decide +kernel, rfl, by decide +kernel, by decide +kernel⟩
theorem ok_joined {f fI : Addr} {fd fdS : FuncData} (F : Fun K "joined" "Plan.joined" sJoined f fd) (T : Txt K mg C TU pS gS mc) (G : Gs P w K mg base C gS fdS) (M : Mk K C fI) (GI : FnR P w K mg base CX0 3 fI (spInit C)) : FnR P w K mg base CX0 5 f (spJoined C) := by
  obtain ⟨z1, z2, z3, z4, z5, z6, cdv, z7, z8, rfl, lk, hcd⟩ := F.ex
  refine (StX.fn_star (ps := ["self"]) (pv := "others") (sp := spJoinedS C) (k := 4) lk hcd scJoined StX.cxUp_none (StX.bind_star1 (B := fun us => bindArgs _ ⟨us, []⟩) (fun _ => rfl) (fun _ _ _ => rfl)) fun A outer s H vs Q E hr h => ?_).imp fun vs H Q E h => ?_
  · obtain ⟨x, tp, ss, o, us, rfl, p1, e2, p2, hl, hs, k⟩ := h
    obtain ⟨dx, t1, ws, e1, e3, e4⟩ := id p1
    obtain ⟨dy, t2, zs, f1, f3, f4⟩ := id p2
    suffices h : ∃ t, PSs (cxOf CX0 P w K mg base ["self", "others", "steps", "other"] "Plan.joined" (defScope sJoined) f cdv A outer s H E).nox (defBody sJoined) t ∧ t { nx := fun _ H' => Q .non H', rt := Q } (start ["self", "others", "steps", "other"] [.ref x, .ref tp]) H by
      obtain ⟨t, h1, h2⟩ := h
      exact ⟨t, h1.nox, h2⟩
    have hr1 : Room 2 _ := hr.mono (by decide)
    refine ⟨_, pss_cons (ps_set (i := 2) scJoined.nd rfl (.inl rfl) (pe_callTy call_list_of (by rfl) T.b.list (by decide +kernel) (pa_cons (pe_prop (pv 0) T.cl T.pr G.ok hr1 G.b .nil pass0 rfl) pa_nil)))
      (pss_cons (ps_for PassesOwn.never rfl (pi_tup (pv 1)) (pg_name (i := 3) scJoined.nd rfl (.inl rfl))
        (pss_one (ps_expr (pe_bm PySem.F.plainAttrs_list PySem.F.slot_list_extend PySem.F.type_list_extend mt_extendT (pv 2) (pa_cons (pe_prop (pv 3) T.cl T.pr G.ok hr1 G.b .nil pass0 rfl) pa_nil)))))
      (pss_one (ps_ret (pe_makeS M GI hr rfl T.gP pass0 (pv 2))))), ?_⟩
    refine ⟨_, rfl, x, dx, _, rfl, e1, x, dx, _, _, rfl, e1, lk_self, t1, ws, rfl, .inr (SqT.of e3), fun l hl0 => ?_⟩
    have s1 : Same H (upd H l (.lst ws)) := same_upd hl0
    have hlen : ws.length + zs.length ≤ 60 := by
      rw [e4.length, f4.length]
      rw [List.length_append] at hl
      exact hl
    refine ⟨_, rfl, tp, rfl, ⟨_, SqT.of (s1 _ _ e2)⟩, for_tup (K := K) (a := tp) (xs := [V.ref o]) (fun i σ H' => ∃ v, σ = [some (.ref x), some (.ref tp), some (.ref l), v] ∧ But l H H' ∧ H' l = some (.lst (if i = 0 then ws else ws ++ zs)))
      ⟨none, rfl, But.of s1, upd_same⟩ (fun i σ H' _ ⟨_, _, b1, _⟩ => SqT.of (b1 _ _ (ne_of_none e2 hl0) e2)) ?_ ?_⟩
    · rintro i y σ H' hi ⟨v, rfl, b1, b2⟩
      match i, hi with
      | 0, hi =>
        cases hi
        have g1 := b1 _ _ (ne_of_none f1 hl0) f1
        have g3 := b1 _ _ (ne_of_none f3 hl0) f3
        rw [if_pos rfl] at b2
        refine ⟨_, rfl, .inl ⟨rfl, _, SqL.of b2⟩, _, rfl, o, dy, _, rfl, g1, o, dy, _, _, rfl, g1, lk_self, l, t2, ws, zs, rfl, rfl, b2, SqT.of g3, Nat.le_trans hlen (by decide), ?_⟩
        refine ⟨_, rfl, fun b o n e => ?_, ?_⟩
        · rw [upd_ne n]
          exact b1 b o n e
        · rw [if_neg (by decide)]
          exact upd_same
      | i + 1, hi => simp at hi
    · rintro σ H' ⟨v, rfl, b1, b2⟩
      rw [if_neg (by show ¬ (1 = 0); decide)] at b2
      refine ⟨_, rfl, l, _, rfl, .inr (SqL.of b2), fun q dq hq hdq hne => ?_⟩
      have s2 : Same H' (upd (upd H' dq (.own q)) q (.ins C dq [])) := fun b o e => by
        rw [upd_ne (ne_of_none e hq), upd_ne (ne_of_none e hdq)]
        exact e
      have stp : Steps H' (ws ++ zs) (ss ++ us) := by
        refine (e4.append f4).mono fun t xs e => b1 _ _ (ne_of_none e hl0) e
      refine ⟨q, dq, _, ss ++ us, rfl, upd_same, stp.same s2, hl, hs, fun H2 tq b3 b4 b5 => ⟨rfl, ?_⟩⟩
      have s3 : Same H H2 := fun b o e => b3 _ _ (ne_of_none (b1 _ _ (ne_of_none e hl0) e) hq) (s2 _ _ (b1 _ _ (ne_of_none e hl0) e))
      refine k q H2 s3 ⟨dq, tq, _, b4, b5, ?_⟩
      exact stp.mono fun t xs e => b3 _ _ (ne_of_none e hq) (s2 _ _ e)
  · obtain ⟨x, ss, o, us, rfl, p1, p2, hl, hs, k⟩ := h
    refine ⟨[.ref x], [.ref o], rfl, rfl, by show 1 ≤ sizeLine; decide, fun p hp => ?_⟩
    have s1 : Same H (upd H p (.tup [.ref o])) := same_upd hp
    exact ⟨x, p, ss, o, us, rfl, p1.same s1, upd_same, p2.same s1, hl, hs, fun p' H' s2 => k p' H' (s1.trans s2)⟩
end
end Cc

namespace Cc
open PySem PySem.Spec PyProof.Rows L2
abbrev sStart : Stmt := top 58
abbrev sDrawn : Stmt := top 59
def spStart (K : PySem.W.Frag) : Sp := fun vs H Q _ => ∃ (a : Addr) (ns : List Int), vs = [.ref a] ∧ SqF K H a (ns.map V.int) ∧ ns.length ≤ 63 ∧ ∀ s H', H s = none → Same H H' → DrawAt K H' s → Q (.ref s) H'
def spDrawn (K : PySem.W.Frag) : Sp := fun vs H Q _ => ∃ (s : Addr) (n : Int), vs = [.ref s, .int n] ∧ DrawAt K H s ∧ 0 < n ∧ n ≤ 9223372036854775807 ∧ ∀ r H', 0 ≤ r → r < n → DrawAt K H' s → But s H H' → Q (.int r) H'
section
variable {P : Program} {w : World} {K : PySem.W.Frag} {mg : Str → Option Value} {base : Heap} {C TU pS gS : Addr} {mc : Value}
theorem scStart : FnScope ["_law_script", "_law_mixed", "_law_cell"] ["_law_script"] (defScope sStart) := ⟨rfl, rfl, rfl, by decide +kernel, rfl, by decide +kernel, by decide +kernel⟩
theorem ok_start {f : Addr} {fd : FuncData} (F : Fun K "_law_start" "_law_start" sStart f fd) : FnOk P w K mg base CX0 1 f fd ["_law_script"] (spStart K) := by
  refine F.ok scStart (fun vs H Q E h => ?_) (fun cdv A outer s H vs Q E hr h => ?_)
  · obtain ⟨a, ns, rfl, _⟩ := h
    rfl
  · obtain ⟨a, ns, rfl, hF, hl, k⟩ := h
    have hS := hF.sq
    refine ⟨_, pss_cons (ps_set (i := 1) scStart.nd rfl (.inl rfl) pe_int)
      (pss_cons (ps_for PassesOwn.never rfl (pi_list (pv 0)) (pg_name (i := 2) scStart.nd rfl (.inl rfl))
        (pss_one (ps_set (i := 1) scStart.nd rfl (.inl rfl) (pe_op op_mod (pe_op op_add (pe_op op_add (pe_op op_mul (pv 1) pe_int) (pv 2)) pe_int) pe_int))))
      (pss_one (ps_ret (pe_lst (pa_cons (pv 0) (pa_cons pe_int (pa_cons (pv 1) (pa_cons pe_int pa_nil)))))))), ?_⟩
    refine ⟨_, rfl, a, rfl, ⟨_, hS⟩, for_list (K := K) (a := a) (xs := ns.map V.int) (fun i σ H' => H' = H ∧ ∃ (m : Int) (v : Option V), σ = [some (.ref a), some (.int m), v]) ⟨rfl, 1, none, rfl⟩ (fun i σ H' _ ⟨e, _⟩ => e ▸ hS) ?_ ?_⟩
    · rintro i y σ H' hi ⟨rfl, m, v, rfl⟩
      obtain ⟨z, rfl⟩ : ∃ z, y = V.int z := by
        rw [List.getElem?_map] at hi
        cases e : ns[i]? with
        | none =>
          rw [e] at hi
          cases hi
        | some z =>
          rw [e] at hi
          exact ⟨z, (Option.some.inj hi).symm⟩
      refine ⟨_, rfl, _, _, rfl, rfl, .inr ⟨by decide, by decide⟩, _, rfl, _, _, rfl, rfl, _, _, rfl, rfl, _, _, rfl, rfl, (by show (0 : Int) < 2147483647; decide), rfl, _, _, rfl⟩
    · rintro σ H' ⟨rfl, m, v, rfl⟩
      refine ⟨_, rfl, _, rfl, by show 4 ≤ sizeLine; decide, fun s hs => ?_⟩
      refine k s _ hs (same_upd hs) ⟨a, ns, 0, m, 0, upd_same, hF.keep fun b o u e => same_upd hs b _ e, hl, Int.le_refl 0⟩
theorem scDrawn : FnScope ["_law_state", "_law_count", "_law_result", "_law_cell"] ["_law_state", "_law_count"] (defScope sDrawn) := ⟨rfl, rfl, rfl, by decide +kernel, rfl, by decide +kernel, by decide +kernel⟩
theorem ok_drawn {f : Addr} {fd : FuncData} (F : Fun K "_law_drawn" "_law_drawn" sDrawn f fd) (B : Bt mg) : FnOk P w K mg base CX0 1 f fd ["_law_state", "_law_count"] (spDrawn K) := by
  refine F.ok scDrawn (fun vs H Q E h => ?_) (fun cdv A outer s H vs Q E hr h => ?_)
  · obtain ⟨s, n, rfl, _⟩ := h
    rfl
  · obtain ⟨s, n, rfl, ⟨a, ns, p, x, y, e, hF, hl, hp⟩, hn, hn2, k⟩ := h
    have hq : ∀ H', But s H H' → SqF K H' a (ns.map V.int) := fun H' b => hF.keep fun c o u q => b c _ (ne_of q e (fun z => nomatch z)) q
    have hw : ∀ i, CDivW i n := fun i => wide_div (b := 63) hn (by omega) (by decide) (by decide)
    refine ⟨_, pss_cons (ps_if (pt_cmpR op_gt (pe_ix ix_list (pv 0) pe_int (fun _ _ => rfl)) pe_int (nomark _))
        (pss_cons (ps_set (i := 2) scDrawn.nd rfl (.inl rfl) (pe_op op_mod (pe_ix ix_list (pv 0) pe_int (fun _ _ => rfl)) (pv 1)))
        (pss_cons (ps_asg (pe_op op_fdivW (pe_ix ix_list (pv 0) pe_int (fun _ _ => rfl)) (pv 1)) (pg_sub (pv 0) pe_int set_list))
        (pss_one (ps_ret (pv 2))))) pss_nil)
      (pss_cons (ps_asg (pe_op op_add (pe_ix ix_list (pv 0) pe_int (fun _ _ => rfl)) pe_int) (pg_sub (pv 0) pe_int set_list))
      (pss_cons (ps_if (pt_cmpR op_le (pe_ix ix_list (pv 0) pe_int (fun _ _ => rfl)) (pe_callB call_len_seq (by rfl) B.len PySem.boot_len (pa_cons (pe_ix ix_list (pv 0) pe_int (fun _ _ => rfl)) pa_nil)) (nomark _))
        (pss_cons (ps_set (i := 3) scDrawn.nd rfl (.inl rfl) (pe_ix ix_list (pe_ix ix_list (pv 0) pe_int (fun _ _ => rfl)) (pe_op op_sub (pe_ix ix_list (pv 0) pe_int (fun _ _ => rfl)) pe_int) (fun _ _ => rfl)))
        (pss_cons (ps_asg (pe_ifExp (pt_cmpR op_ge (pv 3) (pe_op op_pow pe_int pe_int) (nomark _)) (pe_op op_fdivW (pv 3) (pv 1)) pe_int) (pg_sub (pv 0) pe_int set_list))
        (pss_one (ps_ret (pe_op op_mod (pv 3) (pv 1)))))) pss_nil)
      (pss_cons (ps_asg (pe_op op_mod (pe_op op_add (pe_op op_mul (pe_ix ix_list (pv 0) pe_int (fun _ _ => rfl)) pe_int) pe_int) pe_int) (pg_sub (pv 0) pe_int set_list))
      (pss_one (ps_ret (pe_op op_mod (pe_op op_fdiv (pe_ix ix_list (pv 0) pe_int (fun _ _ => rfl)) pe_int) (pv 1))))))), ?_⟩
    have fin : ∀ (r : Int) (p' x' y' : Int) (H' : Hp), 0 ≤ r → r < n → 0 ≤ p' → But s H H' → H' s = some (.lst [.ref a, .int p', .int x', .int y']) → Q (.int r) H' := fun r p' x' y' H' h0 h1 hp' b e' =>
      k r H' h0 h1 ⟨a, ns, p', x', y', e', hq H' b, hl, hp'⟩ b
    refine ⟨_, rfl, s, _, _, _, rfl, rfl, SqL.of e, at_of (j := 3) rfl rfl, _, _, rfl, rfl, _, rfl, ?_⟩
    refine ite2 (fun _ => ?_) (fun _ => ?_)
    · refine ⟨_, rfl, s, _, _, _, rfl, rfl, SqL.of e, at_of (j := 3) rfl rfl, _, rfl, _, _, rfl, rfl, hn, ?_⟩
      refine ⟨_, rfl, s, _, _, _, rfl, rfl, SqL.of e, at_of (j := 3) rfl rfl, _, rfl, _, _, rfl, rfl, hw _, ?_⟩
      refine ⟨_, rfl, s, _, _, 3, rfl, rfl, e, rfl, _, rfl, ?_⟩
      exact fin _ _ _ _ _ (Int.emod_nonneg _ (by omega)) (Int.emod_lt_of_pos _ hn) hp but_upd upd_same
    · refine ⟨_, rfl, s, _, _, _, rfl, rfl, SqL.of e, at_of (j := 1) rfl rfl, _, _, rfl, rfl, ?_⟩
      refine ⟨_, rfl, s, _, _, 1, rfl, rfl, e, rfl, ?_⟩
      have b1 : But s H (upd H s (.lst [.ref a, .int (p + 1), .int x, .int y])) := but_upd
      refine ⟨_, rfl, s, _, _, _, rfl, rfl, SqL.of upd_same, at_of (j := 1) rfl rfl, _, rfl, s, _, _, _, rfl, rfl, SqL.of upd_same, at_of (j := 0) rfl rfl, a, _, rfl, .inl (hq _ b1).sq, _, _, rfl, rfl, _, rfl, ?_⟩
      refine ite2 (fun c => ?_) (fun _ => ?_)
      · have c' : p + 1 ≤ (ns.length : Int) := by
          have := of_decide_eq_true c
          rw [List.length_map] at this
          exact this
        obtain ⟨j, ej⟩ : ∃ j : Nat, p + 1 - 1 = (j : Int) := ⟨p.toNat, by omega⟩
        have hj : j < ns.length := by omega
        refine ⟨_, rfl, s, _, _, _, rfl, rfl, SqL.of upd_same, at_of (j := 0) rfl rfl, _, rfl, s, _, _, _, rfl, rfl, SqL.of upd_same, at_of (j := 1) rfl rfl, _, _, rfl, rfl, a, _, _, _, rfl, rfl, (hq _ b1).sq, at_of (j := j) (v := V.int ns[j]) ej (by rw [List.getElem?_map, List.getElem?_eq_getElem hj]; rfl), ?_⟩
        refine ⟨_, rfl, _, _, rfl, rfl, ⟨by decide, by decide, by decide⟩, _, _, rfl, rfl, _, rfl, ?_⟩
        refine ite2 (fun _ => ?_) (fun _ => ?_)
        · refine ⟨_, rfl, _, rfl, _, _, rfl, rfl, hw _, ?_⟩
          refine ⟨_, rfl, s, _, _, 3, rfl, rfl, upd_same, rfl, _, rfl, _, rfl, _, _, rfl, rfl, hn, ?_⟩
          exact fin _ _ _ _ _ (Int.emod_nonneg _ (by omega)) (Int.emod_lt_of_pos _ hn) (by show 0 ≤ p + 1; omega) (b1.trans but_upd) upd_same
        · refine ⟨_, rfl, s, _, _, 3, rfl, rfl, upd_same, rfl, _, rfl, _, rfl, _, _, rfl, rfl, hn, ?_⟩
          exact fin _ _ _ _ _ (Int.emod_nonneg _ (by omega)) (Int.emod_lt_of_pos _ hn) (by show 0 ≤ p + 1; omega) (b1.trans but_upd) upd_same
      · refine ⟨_, rfl, s, _, _, _, rfl, rfl, SqL.of upd_same, at_of (j := 2) rfl rfl, _, _, rfl, rfl, .inr ⟨by decide, by decide⟩, _, _, rfl, rfl, _, _, rfl, rfl, (by show (0 : Int) < 2147483647; decide), ?_⟩
        refine ⟨_, rfl, s, _, _, 2, rfl, rfl, upd_same, rfl, ?_⟩
        refine ⟨_, rfl, s, _, _, _, rfl, rfl, SqL.of upd_same, at_of (j := 2) rfl rfl, _, _, rfl, rfl, ⟨by decide, by decide⟩, _, rfl, _, _, rfl, rfl, hn, ?_⟩
        exact fin _ _ _ _ _ (Int.emod_nonneg _ (by omega)) (Int.emod_lt_of_pos _ hn) (by show 0 ≤ p + 1; omega) (b1.trans but_upd) upd_same
end
end Cc

namespace Cc
open PySem PySem.Spec PyProof.Rows L2
abbrev sAStep : Stmt := top 18
abbrev sASteps : Stmt := top 19
def spAStep : Sp := fun vs H Q _ => ∃ (v : V) (s : Stp) (c r : Int), vs = [v, .int c, .int r] ∧ StepAt H v s ∧ ∀ p H', Same H H' → H' p = some (.tup [.int (stepF c s r).1, .int (stepF c s r).2]) → Q (.ref p) H'
def spASteps (K : PySem.W.Frag) : Sp := fun vs H Q _ => ∃ (t : Addr) (ws : List V) (ss : List Stp) (c r : Int), vs = [.ref t, .int c, .int r] ∧ SqT K H t ws ∧ (∀ H', Same H H' → SqT K H' t ws) ∧ Steps H ws ss ∧ ∀ p H', Same H H' → H' p = some (.tup [.int (stepsF c ss (r, 0)).1, .int (stepsF c ss (r, 0)).2]) → Q (.ref p) H'
section
variable {P : Program} {w : World} {K : PySem.W.Frag} {mg : Str → Option Value} {base : Heap} {C TU pS gS : Addr} {mc : Value}
theorem scAStep : FnScope ["step", "chairs", "red", "room", "need", "missing"] ["step", "chairs", "red"] (defScope sAStep) := ⟨rfl, rfl, rfl, by decide +kernel, rfl, by decide +kernel, by decide +kernel⟩
theorem ok_astep {f : Addr} {fd : FuncData} (F : Fun K "after_step" "after_step" sAStep f fd) (T : Txt K mg C TU pS gS mc) : FnOk P w K mg base CX0 1 f fd ["step", "chairs", "red"] spAStep := by
  refine F.ok scAStep (fun vs H Q E h => ?_) (fun cdv A outer s H vs Q E hr h => ?_)
  · obtain ⟨v, s, c, r, rfl, _⟩ := h
    rfl
  · obtain ⟨v, st, c, r, rfl, ⟨t, rfl, ht⟩, k⟩ := h
    refine ⟨_, pss_cons (ps_if (pt_cmpR (op_eqD hr.units) (pv 0) (pe_glob (v := .ref TU) rfl T.gT rfl) (nomark _)) (pss_one (ps_ret (pe_tup (pa_cons (pe_op op_sub (pv 1) (pv 2)) (pa_cons pe_int pa_nil))))) pss_nil)
      (pss_cons (ps_asg (pv 0) (pg_tup rfl (pgs_cons (pg_name (i := 3) scAStep.nd rfl (.inl rfl)) (pgs_cons (pg_name (i := 4) scAStep.nd rfl (.inl rfl)) pgs_nil))))
      (pss_cons (ps_if (pt_cmpR op_eq (pv 3) pe_str (nomark _))
        (pss_cons (ps_set (i := 5) scAStep.nd rfl (.inl rfl) (pe_callB (call_max2 rfl) (by rfl) T.b.max (by decide +kernel) (pa_cons pe_int (pa_cons (pe_op op_sub (pv 4) (pv 2)) pa_nil))))
        (pss_one (ps_ret (pe_tup (pa_cons (pe_op op_add (pv 2) (pv 5)) (pa_cons (pv 5) pa_nil)))))) pss_nil)
      (pss_cons (ps_set (i := 5) scAStep.nd rfl (.inl rfl) (pe_callB (call_max2 rfl) (by rfl) T.b.max (by decide +kernel) (pa_cons pe_int (pa_cons (pe_op op_sub (pv 4) (pe_op op_sub (pv 1) (pv 2))) pa_nil))))
      (pss_one (ps_ret (pe_tup (pa_cons (pe_op op_sub (pv 2) (pv 5)) (pa_cons (pv 5) pa_nil)))))))), ?_⟩
    cases st with
    | turn =>
      refine ⟨_, rfl, .tuple [.str "turn"], .tuple [.str "turn"], .tup (SqT.of ht) (.cons (.str _) .nil), .tup (T.tT _) (.cons (.str _) .nil), by decide +kernel, by decide +kernel, _, rfl, ?_⟩
      rw [eqv_turn]
      refine iteT ⟨_, rfl, _, rfl, _, _, rfl, rfl, by show 2 ≤ sizeLine; decide, fun p hp => ?_⟩
      exact k p _ (same_upd hp) upd_same
    | meet bb n =>
      refine ⟨_, rfl, .tuple [.str (roomS bb), .int n], .tuple [.str "turn"], .tup (SqT.of ht) (.cons (.str _) (.cons (.int _) .nil)), .tup (T.tT _) (.cons (.str _) .nil), shaped_meet bb n, by decide +kernel, _, rfl, ?_⟩
      rw [eqv_meet]
      refine iteF ⟨_, rfl, t, _, rfl, SqT.of ht, rfl, _, _, rfl, _, _, rfl, rfl, ?_⟩
      refine ⟨_, rfl, rfl, _, rfl, ?_⟩
      rw [room_eq]
      cases bb with
      | true =>
        refine iteT ⟨_, rfl, _, rfl, _, _, rfl, rfl, _, _, rfl, ?_⟩
        refine ⟨_, rfl, _, rfl, _, _, rfl, rfl, _, rfl, by show 2 ≤ sizeLine; decide, fun p hp => ?_⟩
        exact k p _ (same_upd hp) upd_same
      | false =>
        refine iteF ⟨_, rfl, _, rfl, _, rfl, _, _, rfl, rfl, _, _, rfl, rfl, _, _, rfl, ?_⟩
        refine ⟨_, rfl, _, rfl, _, _, rfl, rfl, _, rfl, by show 2 ≤ sizeLine; decide, fun p hp => ?_⟩
        exact k p _ (same_upd hp) upd_same
theorem scASteps : FnScope ["steps", "chairs", "red", "total", "step", "carried"] ["steps", "chairs", "red"] (defScope sASteps) := ⟨rfl, rfl, rfl, by decide +kernel, rfl, by decide +kernel, by decide +kernel⟩
theorem ok_asteps {f fA : Addr} {fd : FuncData} (F : Fun K "after_steps" "after_steps" sASteps f fd) (D : Dn P w K mg base 1 "after_step" fA spAStep) : FnOk P w K mg base CX0 2 f fd ["steps", "chairs", "red"] (spASteps K) := by
  refine F.ok scASteps (fun vs H Q E h => ?_) (fun cdv A outer s H vs Q E hr h => ?_)
  · obtain ⟨t, ws, ss, c, r, rfl, _⟩ := h
    rfl
  · obtain ⟨t, ws, ss, c, r, rfl, hT, hT2, hs, k⟩ := h
    refine ⟨_, pss_cons (ps_set (i := 3) scASteps.nd rfl (.inl rfl) pe_int)
      (pss_cons (ps_for PassesOwn.never rfl (pi_tup (pv 0)) (pg_name (i := 4) scASteps.nd rfl (.inl rfl))
        (pss_cons (ps_asg (pe_callR D.ok hr rfl D.at_ D.kp pass0 (pa_cons (pv 4) (pa_cons (pv 1) (pa_cons (pv 2) pa_nil)))) (pg_tup rfl (pgs_cons (pg_name (i := 2) scASteps.nd rfl (.inl rfl)) (pgs_cons (pg_name (i := 5) scASteps.nd rfl (.inl rfl)) pgs_nil))))
        (pss_one (ps_aug (i := 3) scASteps.nd rfl (.inl rfl) (pv 5) ip_add))))
      (pss_one (ps_ret (pe_tup (pa_cons (pv 2) (pa_cons (pv 3) pa_nil)))))), ?_⟩
    refine ⟨_, rfl, t, rfl, ⟨_, hT⟩, for_tup (K := K) (a := t) (xs := ws) (fun i σ H' => ∃ (x y : Option V), σ = [some (.ref t), some (.int c), some (.int (stepsF c (ss.take i) (r, 0)).1), some (.int (stepsF c (ss.take i) (r, 0)).2), x, y] ∧ Same H H')
      ⟨none, none, rfl, Same.refl H⟩ (fun i σ H' _ ⟨_, _, _, s1⟩ => hT2 _ s1) ?_ ?_⟩
    · rintro i v σ H' hi ⟨x, y, rfl, s1⟩
      obtain ⟨st, hst, q, rfl, hq⟩ := hs.get hi
      refine ⟨_, rfl, _, rfl, _, rfl, _, st, c, _, rfl, ⟨q, rfl, s1 _ _ hq⟩, fun p H2 s2 e2 => ?_⟩
      refine ⟨p, _, rfl, SqT.of e2, rfl, _, _, rfl, _, _, rfl, rfl, ?_⟩
      refine ⟨_, rfl, _, rfl, _, _, rfl, rfl, ?_⟩
      refine ⟨some (.ref q), some (.int (stepF c st (stepsF c (ss.take i) (r, 0)).1).2), ?_, s1.trans s2⟩
      rw [take_more hst, stepsF_one]
      rfl
    · rintro σ H' ⟨x, y, rfl, s1⟩
      rw [hs.length, List.take_length]
      refine ⟨_, rfl, _, rfl, by show 2 ≤ sizeLine; decide, fun p hp => ?_⟩
      exact k p _ (s1.trans (same_upd hp)) upd_same
end
end Cc

/-! Nobody carries less: the least price of each place behind the steps. -/
namespace Cc
open PySem PySem.Spec PyProof.Rows L2
def ab (i : Int) : Int := if i < 0 then -i else i
/-- the prices of the places 0, 1, .. when T are carried and pos is the lazy place -/
def priceF (n : Nat) (T pos : Int) : List Int := (List.range n).map fun (g : Nat) => T + ab ((g : Int) - pos)
/-- the place (chairs in the room that was red at first), by the side -/
def placeF (c side r : Int) : Int := if side = 1 then r else c - r
/-- the places that a meeting allows -/
def goodF (c : Int) (first : Bool) (need : Int) (n : Nat) : List Nat := (List.range n).filter fun (g : Nat) => decide (need ≤ if first = true then (0 + (g : Int)) else c - (0 + (g : Int)))
theorem mem_goodF {c : Int} {first : Bool} {need : Int} {n g : Nat} : g ∈ goodF c first need n ↔ g < n ∧ need ≤ (if first = true then (g : Int) else c - g) := by
  unfold goodF
  rw [List.mem_filter, List.mem_range]
  simp
/-- a meeting moves the lazy place to the nearest that it allows -/
theorem place_meet {c side r n : Int} {b : Bool} (hs : side = 1 ∨ side = -1) (h0 : 0 ≤ r) (h1 : r ≤ c) (n0 : 0 ≤ n) (n1 : n ≤ c) (first : Bool) (hf : first = (b == decide (side = 1))) :
    placeF c side (stepF c (.meet b n) r).1 = (if first = true then (if placeF c side r < n then n else placeF c side r) else (if c - n < placeF c side r then c - n else placeF c side r)) ∧
    (stepF c (.meet b n) r).2 = ab (placeF c side (stepF c (.meet b n) r).1 - placeF c side r) := by
  subst hf
  rcases hs with rfl | rfl <;> cases b <;> simp [placeF, stepF, mx, ab] <;> omega
theorem place_in {c side r : Int} (h0 : 0 ≤ r) (h1 : r ≤ c) : 0 ≤ placeF c side r ∧ placeF c side r ≤ c := by
  unfold placeF
  split <;> omega
/-- the new price of a place -/
theorem price_meet {c side r n T : Int} {b : Bool} (hs : side = 1 ∨ side = -1) (h0 : 0 ≤ r) (h1 : r ≤ c) (n0 : 0 ≤ n) (n1 : n ≤ c) (first : Bool) (hf : first = (b == decide (side = 1))) (g : Int) :
    (∃ p : Nat, p ∈ goodF c first n (c + 1).toNat ∧ (T + ab ((p : Int) - placeF c side r)) + ab ((p : Int) - g) = (T + (stepF c (.meet b n) r).2) + ab (g - placeF c side (stepF c (.meet b n) r).1)) ∧
    ∀ p : Nat, p ∈ goodF c first n (c + 1).toNat → (T + (stepF c (.meet b n) r).2) + ab (g - placeF c side (stepF c (.meet b n) r).1) ≤ (T + ab ((p : Int) - placeF c side r)) + ab ((p : Int) - g) := by
  obtain ⟨e1, e2⟩ := place_meet hs h0 h1 n0 n1 first hf
  obtain ⟨p0, p1⟩ := place_in (side := side) h0 h1
  rw [e2]
  generalize placeF c side r = pos at *
  generalize placeF c side (stepF c (.meet b n) r).1 = pos' at *
  have hp0 : 0 ≤ pos' := by
    subst e1
    split <;> split <;> omega
  refine ⟨⟨pos'.toNat, mem_goodF.mpr ⟨?_, ?_⟩, ?_⟩, fun p hp => ?_⟩
  · subst e1
    split <;> split <;> omega
  · have q : ((pos'.toNat : Nat) : Int) = pos' := by omega
    rw [q]
    subst e1
    cases first <;> simp <;> split <;> omega
  · have q : ((pos'.toNat : Nat) : Int) = pos' := by omega
    rw [q]
    unfold ab
    split <;> split <;> split <;> omega
  · obtain ⟨hp1, hp2⟩ := mem_goodF.mp hp
    unfold ab
    cases first
    · simp at e1 hp2
      subst e1
      split <;> split <;> split <;> split <;> omega
    · simp at e1 hp2
      subst e1
      split <;> split <;> split <;> split <;> omega
theorem least_is {ns : List Int} {m v : Int} (h1 : m ∈ ns) (h2 : ∀ x ∈ ns, m ≤ x) (h3 : v ∈ ns) (h4 : ∀ x ∈ ns, v ≤ x) : m = v := Int.le_antisymm (h2 v h3) (h4 m h1)
theorem priceF_get {n : Nat} {T pos : Int} {p : Nat} (h : p < n) : (priceF n T pos)[p]? = some (T + ab ((p : Int) - pos)) := by
  unfold priceF
  rw [List.getElem?_map, List.getElem?_range h]
  rfl
end Cc
namespace Cc
open PySem PySem.Spec PyProof.Rows L2
theorem ifT {c : Bool} {A B : Prop} (hc : c = true) (h : A) : if c = true then A else B := by
  rw [if_pos hc]
  exact h
theorem ifF {c : Bool} {A B : Prop} (hc : c = false) (h : B) : if c = true then A else B := by
  rw [hc, if_neg Bool.false_ne_true]
  exact h
theorem same_new {H H' : Hp} {D : Addr} {o : HO} (h : H D = none) (s : Same H H') : Same H (upd H' D o) := fun b u e => by
  rw [upd_ne (ne_of_none e h)]
  exact s b u e
theorem upd_lst {H : Hp} {D : Addr} {xs ys : List V} (h : xs = ys) : upd H D (.lst xs) D = some (.lst ys) := by
  rw [h]
  exact upd_same
theorem priceF_succ (n : Nat) (T pos : Int) : (priceF (n + 1) T pos).map V.int = (priceF n T pos).map V.int ++ [V.int (T + ab ((n : Int) - pos))] := by
  unfold priceF
  rw [List.range_succ, List.map_append, List.map_append]
  rfl
theorem priceF_len (n : Nat) (T pos : Int) : (priceF n T pos).length = n := by
  simp [priceF]
def goodV (c : Int) (first : Bool) (need : Int) (n : Nat) : List V := (goodF c first need n).map fun (p : Nat) => V.int (0 + (p : Int))
theorem goodV_succ (c : Int) (first : Bool) (need : Int) (n : Nat) (h : (decide (need ≤ if first = true then (0 + (n : Int)) else c - (0 + (n : Int)))) = true) : goodV c first need (n + 1) = goodV c first need n ++ [V.int (0 + (n : Int))] := by
  unfold goodV goodF
  rw [List.range_succ, List.filter_append, List.map_append]
  simp only [List.filter_cons, h, if_true, List.filter_nil, List.map_cons, List.map_nil]
theorem goodV_skip (c : Int) (first : Bool) (need : Int) (n : Nat) (h : (decide (need ≤ if first = true then (0 + (n : Int)) else c - (0 + (n : Int)))) = false) : goodV c first need (n + 1) = goodV c first need n := by
  unfold goodV goodF
  rw [List.range_succ, List.filter_append, List.map_append]
  simp only [List.filter_cons, h, Bool.false_eq_true, if_false, List.filter_nil, List.map_nil, List.append_nil]
theorem goodV_len (c : Int) (first : Bool) (need : Int) (n : Nat) : (goodV c first need n).length ≤ n := by
  unfold goodV goodF
  rw [List.length_map]
  exact Nat.le_trans (List.length_filter_le _ _) (by rw [List.length_range]; exact Nat.le_refl n)
theorem room_turn (b : Bool) : decide (V.str (roomS b) = V.str "turn") = false := by
  cases b <;> decide +kernel
theorem first_eq (b : Bool) (side : Int) : decide (V.bl (decide (V.str (roomS b) = V.str "red")) = V.bl (decide (V.int side = V.int 1))) = (b == decide (side = 1)) := by
  rw [room_eq]
  have e : decide (V.int side = V.int 1) = decide (side = 1) := by
    by_cases h : side = 1
    · subst h; simp
    · rw [decide_eq_false h, decide_eq_false fun z => h (by injection z)]
  rw [e]
  cases b <;> cases decide (side = 1) <;> decide
theorem small_line {i n : Nat} (h : i < n) (hn : n ≤ 2000) : i < sizeLine := by
  rw [sizeLine_eq]
  omega
end Cc

/-! summary: what a plan does to all starts. -/
namespace Cc
open PySem PySem.Spec PyProof.Rows L2
structure Sm where
  low : Int
  high : Int
  extra : Int
  goal : Option Int
  turned : Bool
def goalV : Option Int → V
  | none => .non
  | some g => .int g
/-- how many chairs the room that was red at first may have -/
def allowF (c : Int) (t b : Bool) (n : Int) : Int × Int := if b == t then (0, c - n) else (n, c)
def nearF (g a b : Int) : Int := if b < (if a > g then a else g) then b else (if a > g then a else g)
/-- a meeting behind steps that only keep to a range -/
def narrowF (lo hi a b : Int) : Int × Int × Int × Option Int :=
  if a > hi then (hi, hi, a - hi, some a) else if b < lo then (lo, lo, lo - b, some b) else (mx lo a, (if b < hi then b else hi), 0, none)
def smStep (c : Int) (m : Sm) : Stp → Sm
  | .turn => { m with turned := !m.turned }
  | .meet b n => match m.goal with
    | none => let z := narrowF m.low m.high (allowF c m.turned b n).1 (allowF c m.turned b n).2; { m with low := z.1, high := z.2.1, extra := z.2.2.1, goal := z.2.2.2 }
    | some g => { m with extra := m.extra + ab (nearF g (allowF c m.turned b n).1 (allowF c m.turned b n).2 - g), goal := some (nearF g (allowF c m.turned b n).1 (allowF c m.turned b n).2) }
def smSteps (c : Int) (ss : List Stp) : Sm := ss.foldl (smStep c) ⟨0, c, 0, none, false⟩
theorem smSteps_more (c : Int) (ss : List Stp) (s : Stp) : smSteps c (ss ++ [s]) = smStep c (smSteps c ss) s := by
  unfold smSteps
  rw [List.foldl_append]
  rfl
def smEnd (m : Sm) : Sm := if m.low = m.high ∧ m.goal = none then { m with goal := some m.low } else m
def sideF (t : Bool) : Int := if t then -1 else 1
/-- what a summary says of a start, of the carried and the place -/
structure SmOk (c : Int) (m : Sm) : Prop where
  l0 : 0 ≤ m.low
  lh : m.low ≤ m.high
  h1 : m.high ≤ c
  g : ∀ z, m.goal = some z → 0 ≤ z ∧ z ≤ c
  e : m.goal = none → m.extra = 0
def distF (lo hi x : Int) : Int := if x < lo then lo - x else if hi < x then x - hi else 0
def clampF (lo hi x : Int) : Int := if x < lo then lo else if hi < x then hi else x
def SmSays (m : Sm) (x total place : Int) : Prop := total = distF m.low m.high x + m.extra ∧ place = (match m.goal with | none => clampF m.low m.high x | some z => z)
theorem says_start (c x : Int) (h0 : 0 ≤ x) (h1 : x ≤ c) : SmOk c ⟨0, c, 0, none, false⟩ ∧ SmSays ⟨0, c, 0, none, false⟩ x 0 (placeF c 1 x) := by
  refine ⟨⟨Int.le_refl 0, by show 0 ≤ c; omega, Int.le_refl c, (fun z h => nomatch h), fun _ => rfl⟩, ?_, ?_⟩
  · show 0 = distF 0 c x + 0
    unfold distF
    split
    · omega
    · split <;> omega
  · show placeF c 1 x = clampF 0 c x
    unfold placeF clampF
    simp
    split
    · omega
    · split <;> omega
theorem smOk_step {c : Int} {m : Sm} {s : Stp} (h : SmOk c m) (hs : s.ok c) : SmOk c (smStep c m s) := by
  obtain ⟨low, high, extra, goal, turned⟩ := m
  obtain ⟨l0, lh, h1, hg, he⟩ := h
  simp only at l0 lh h1 hg he
  cases s with
  | turn => exact ⟨l0, lh, h1, hg, he⟩
  | meet b n =>
    obtain ⟨n0, n1⟩ := hs
    cases goal with
    | none =>
      simp only [smStep, narrowF, allowF, mx]
      cases b <;> cases turned <;> simp <;> (split <;> first
        | (constructor <;> simp <;> omega)
        | (split <;> (constructor <;> simp <;> omega)))
    | some z =>
      have hz := hg z rfl
      simp only [smStep, nearF, allowF]
      refine ⟨l0, lh, h1, fun y hy => ?_, fun q => nomatch q⟩
      simp only [Option.some.injEq] at hy
      subst hy
      cases b <;> cases turned <;> simp <;> split <;> split <;> omega
theorem side_of (t : Bool) : sideF t = 1 ∨ sideF t = -1 := by
  cases t <;> simp [sideF]
theorem narrow_says {lo hi a b x : Int} (h : lo ≤ hi) (hab : a ≤ b) : distF lo hi x + ab (clampF a b (clampF lo hi x) - clampF lo hi x) = distF (narrowF lo hi a b).1 (narrowF lo hi a b).2.1 x + (narrowF lo hi a b).2.2.1 ∧
    clampF a b (clampF lo hi x) = (match (narrowF lo hi a b).2.2.2 with | none => clampF (narrowF lo hi a b).1 (narrowF lo hi a b).2.1 x | some z => z) := by
  unfold narrowF
  by_cases q1 : a > hi
  · rw [if_pos q1]
    simp only [distF, clampF, ab]
    omega
  · rw [if_neg q1]
    by_cases q2 : b < lo
    · rw [if_pos q2]
      simp only [distF, clampF, ab]
      omega
    · rw [if_neg q2]
      simp only [distF, clampF, ab, mx]
      omega
theorem near_is {g a b : Int} (hab : a ≤ b) : nearF g a b = clampF a b g := by
  unfold nearF clampF
  omega
/-- a meeting moves the place to the nearest that it allows -/
theorem place_allow {c r n : Int} {b t : Bool} (r0 : 0 ≤ r) (r1 : r ≤ c) (n0 : 0 ≤ n) (n1 : n ≤ c) :
    placeF c (sideF t) (stepF c (.meet b n) r).1 = clampF (allowF c t b n).1 (allowF c t b n).2 (placeF c (sideF t) r) ∧ (stepF c (.meet b n) r).2 = ab (placeF c (sideF t) (stepF c (.meet b n) r).1 - placeF c (sideF t) r) ∧ (allowF c t b n).1 ≤ (allowF c t b n).2 := by
  cases b <;> cases t <;> simp [placeF, sideF, stepF, clampF, allowF, mx, ab] <;> omega
theorem says_step {c : Int} {m : Sm} {s : Stp} {x r total : Int} (ok : SmOk c m) (hs : s.ok c) (r0 : 0 ≤ r) (r1 : r ≤ c) (h : SmSays m x total (placeF c (sideF m.turned) r)) :
    SmSays (smStep c m s) x (total + (stepF c s r).2) (placeF c (sideF (smStep c m s).turned) (stepF c s r).1) := by
  obtain ⟨low, high, extra, goal, turned⟩ := m
  obtain ⟨l0, lh, hc1, hg, he⟩ := ok
  simp only at l0 lh hc1 hg he
  obtain ⟨e1, e2⟩ := h
  simp only at e1 e2
  cases s with
  | turn =>
    refine ⟨?_, ?_⟩
    · show total + 0 = distF low high x + extra
      omega
    · refine Eq.trans ?_ e2
      show placeF c (sideF (!turned)) (c - r) = placeF c (sideF turned) r
      cases turned <;> simp [placeF, sideF] <;> omega
  | meet b n =>
    obtain ⟨n0, n1⟩ := hs
    obtain ⟨f1, f2, f3⟩ := place_allow (c := c) (b := b) (t := turned) r0 r1 n0 n1
    cases goal with
    | none =>
      have he0 := he rfl
      subst he0
      simp only at e2
      obtain ⟨g1, g2⟩ := narrow_says (lo := low) (hi := high) (a := (allowF c turned b n).1) (b := (allowF c turned b n).2) (x := x) lh f3
      refine ⟨?_, ?_⟩
      · refine Eq.trans ?_ g1
        rw [f2, f1, e2, e1, Int.add_zero]
      · refine Eq.trans ?_ g2
        show placeF c (sideF turned) (stepF c (.meet b n) r).1 = _
        rw [f1, e2]
    | some z =>
      simp only at e2
      refine ⟨?_, ?_⟩
      · show total + (stepF c (.meet b n) r).2 = distF low high x + (extra + ab (nearF z (allowF c turned b n).1 (allowF c turned b n).2 - z))
        rw [near_is f3, f2, f1, e2, e1, Int.add_assoc]
      · show placeF c (sideF turned) (stepF c (.meet b n) r).1 = nearF z (allowF c turned b n).1 (allowF c turned b n).2
        rw [near_is f3, f1, e2]
theorem snoc_ind {α : Type} {M : List α → Prop} (h0 : M []) (h1 : ∀ l a, M l → M (l ++ [a])) (l : List α) : M l := by
  have q : ∀ k : List α, M k.reverse := fun k => by
    induction k with
    | nil => exact h0
    | cons a k ih =>
      rw [List.reverse_cons]
      exact h1 _ a ih
  have z := q l.reverse
  rw [List.reverse_reverse] at z
  exact z
/-- behind all steps -/
theorem smSteps_says {c x : Int} (x0 : 0 ≤ x) (x1 : x ≤ c) (ss : List Stp) : (∀ s ∈ ss, s.ok c) → SmOk c (smSteps c ss) ∧ SmSays (smSteps c ss) x (stepsF c ss (x, 0)).2 (placeF c (sideF (smSteps c ss).turned) (stepsF c ss (x, 0)).1) := by
  refine snoc_ind (M := fun ss => (∀ s ∈ ss, s.ok c) → SmOk c (smSteps c ss) ∧ SmSays (smSteps c ss) x (stepsF c ss (x, 0)).2 (placeF c (sideF (smSteps c ss).turned) (stepsF c ss (x, 0)).1)) (fun _ => says_start c x x0 x1) (fun us s ih hs => ?_) ss
  have hd : ∀ s ∈ us, s.ok c := fun z h => hs z (List.mem_append_left _ h)
  obtain ⟨ok, sy⟩ := ih hd
  obtain ⟨r0, r1, _⟩ := stepsF_in (c := c) (ss := us) (r := x) (t := 0) hd x0 x1 (Int.le_refl 0)
  have hg := hs s (List.mem_append_right _ List.mem_cons_self)
  rw [smSteps_more, stepsF_one]
  exact ⟨smOk_step ok hg, says_step ok hg r0 r1 sy⟩
theorem smEnd_says {c : Int} {m : Sm} {x total place : Int} (ok : SmOk c m) (h : SmSays m x total place) : SmOk c (smEnd m) ∧ SmSays (smEnd m) x total place ∧ ((smEnd m).low = (smEnd m).high → (smEnd m).goal ≠ none) ∧ (smEnd m).turned = m.turned := by
  obtain ⟨low, high, extra, goal, turned⟩ := m
  obtain ⟨l0, lh, hc1, hg, he⟩ := ok
  simp only at l0 lh hc1 hg he
  obtain ⟨e1, e2⟩ := h
  simp only at e1 e2
  unfold smEnd
  by_cases q : low = high ∧ goal = none
  · simp only [q, and_self, if_true]
    obtain ⟨q1, q2⟩ := q
    subst q1 q2
    simp only at e2
    refine ⟨⟨l0, Int.le_refl _, hc1, fun z hz => ?_, fun h => nomatch h⟩, ⟨e1, ?_⟩, (fun _ h => nomatch h), by first | rfl | trivial⟩
    · cases hz
      exact ⟨l0, hc1⟩
    · rw [e2]
      show clampF low low x = low
      unfold clampF
      omega
  · simp only [q, if_false]
    exact ⟨⟨l0, lh, hc1, hg, he⟩, ⟨e1, e2⟩, fun h1 h2 => q ⟨h1, h2⟩, by first | rfl | trivial⟩
/-- the number of turns -/
def turnsF (ss : List Stp) : Nat := (ss.filter fun s => match s with | .turn => true | .meet _ _ => false).length
theorem turned_is (c : Int) (ss : List Stp) : (smSteps c ss).turned = decide (turnsF ss % 2 = 1) := by
  refine snoc_ind (M := fun ss => (smSteps c ss).turned = decide (turnsF ss % 2 = 1)) rfl (fun us s ih => ?_) ss
  rw [smSteps_more]
  have ef : turnsF (us ++ [s]) = turnsF us + (match s with | .turn => 1 | .meet _ _ => 0) := by
    unfold turnsF
    rw [List.filter_append, List.length_append]
    cases s <;> rfl
  rw [ef]
  cases s with
  | turn =>
    show (!(smSteps c us).turned) = _
    rw [ih]
    by_cases q : turnsF us % 2 = 1
    · rw [decide_eq_true q, decide_eq_false (by simp only; omega)]
      rfl
    · rw [decide_eq_false q, decide_eq_true (by simp only; omega)]
      rfl
  | meet b z =>
    have et : (smStep c (smSteps c us) (.meet b z)).turned = (smSteps c us).turned := by
      unfold smStep
      cases (smSteps c us).goal <;> rfl
    rw [et, ih]
    rfl
end Cc

/-! The play of steps one by one; three more rules. -/
namespace Cc
open PySem PySem.Spec PyProof.Rows L2
def carryF (c : Int) : List Stp → Int → List Int
  | [], _ => []
  | s :: ss, r => (stepF c s r).2 :: carryF c ss (stepF c s r).1
theorem stepsF_fst (c : Int) : ∀ (ss : List Stp) (r t u : Int), (stepsF c ss (r, t)).1 = (stepsF c ss (r, u)).1
  | [], _, _, _ => rfl
  | s :: ss, r, t, u => stepsF_fst c ss (stepF c s r).1 _ _
theorem carryF_one (c : Int) (s : Stp) : ∀ (ss : List Stp) (r : Int), carryF c (ss ++ [s]) r = carryF c ss r ++ [(stepF c s (stepsF c ss (r, 0)).1).2]
  | [], r => rfl
  | z :: ss, r => by
    show (stepF c z r).2 :: carryF c (ss ++ [s]) (stepF c z r).1 = (stepF c z r).2 :: (carryF c ss (stepF c z r).1 ++ [(stepF c s (stepsF c ss ((stepF c z r).1, 0 + (stepF c z r).2)).1).2])
    rw [carryF_one c s ss (stepF c z r).1, stepsF_fst c ss (stepF c z r).1 0 (0 + (stepF c z r).2)]
theorem carryF_len (c : Int) : ∀ (ss : List Stp) (r : Int), (carryF c ss r).length = ss.length
  | [], _ => rfl
  | s :: ss, r => by
    show (carryF c ss (stepF c s r).1).length + 1 = ss.length + 1
    rw [carryF_len c ss]
theorem carryF_sum (c : Int) : ∀ (ss : List Stp) (r : Int), (carryF c ss r).sum = (stepsF c ss (r, 0)).2
  | [], _ => rfl
  | s :: ss, r => by
    show ((stepF c s r).2 :: carryF c ss (stepF c s r).1).sum = (stepsF c ss ((stepF c s r).1, 0 + (stepF c s r).2)).2
    rw [List.sum_cons, carryF_sum c ss, stepsF_add c ss (stepF c s r).1 (0 + (stepF c s r).2), Int.zero_add]
theorem nuMax3_int (a b z : Int) : nuMax3 (.int a) (.int b) (.int z) = some (.int (if (if a < b then b else a) < z then z else (if a < b then b else a))) := by
  by_cases h : a < b
  · by_cases h2 : b < z <;> simp [nuMax3, nuMax2, nuLt, nuCB, h, h2]
  · by_cases h2 : a < z <;> simp [nuMax3, nuMax2, nuLt, nuCB, h, h2]
/-- a <= b <= c <= d, a test -/
def tChain3 (r1 r2 r3 : R2) (ta tb tc td : TE) : TT := fun σ H Q => ta σ H fun x H1 => tb σ H1 fun y H2 => r1 x y H2 fun z H3 => ∃ k, z = .bl k ∧
  (if k = true then tc σ H3 fun x2 H4 => r2 y x2 H4 fun z2 H5 => ∃ k2, z2 = .bl k2 ∧ (if k2 = true then td σ H5 fun x3 H6 => r3 x2 x3 H6 fun z3 H7 => ∃ k3, z3 = .bl k3 ∧ Q k3 H7 else Q false H5) else Q false H3)
section
variable {X : Cx} {a b c d : Expr} {ta tb tc td : TE} {pos : Pos}
theorem pt_chain3 {o1 o2 o3 : CmpOp} {r1 r2 r3 : R2} (h1 : OpR X (compareOp o1) r1) (h2 : OpR X (compareOp o2) r2) (h3 : OpR X (compareOp o3) r3) (ha : PE X a ta) (hb : PE X b tb) (hc : PE X c tc) (hd : PE X d td)
    (hm : lastMarks [o1, o2, o3] [b, c, d] = false := by with_unfolding_all rfl) : PT X (.Compare a [o1, o2, o3] [b, c, d] pos) (tChain3 r1 r2 r3 ta tb tc td) := by
  refine ⟨fun pn s sg Hh Qq J h => isTrue_chain ?_ hm⟩
  refine thn (ha.run pn s sg Hh _ J h) fun v1 z1 ⟨x1, G1, J1, e1, p1⟩ => test_link ?_
  refine thn (hb.run pn z1 sg G1 _ J1 p1) fun v2 z2 ⟨x2, G2, J2, e2, p2⟩ => ?_
  refine thn (h1 pn z2 sg G2 x1 x2 v1 v2 _ J2 e1 e2 p2) fun v3 z3 ⟨y1, G3, J3, e3, k1, f1, p3⟩ => ?_
  subst f1
  cases e3
  refine wpAny_truthy_bool ?_
  cases k1 with
  | false => exact ite_ff ⟨G3, J3, p3⟩
  | true =>
    refine ite_tt (test_link ?_)
    refine thn (hc.run pn z3 sg G3 _ J3 p3) fun v4 z4 ⟨x3, G4, J4, e4, p4⟩ => ?_
    refine thn (h2 pn z4 sg G4 x2 x3 v2 v4 _ J4 e2 e4 p4) fun v5 z5 ⟨y2, G5, J5, e5, k2, f2, p5⟩ => ?_
    subst f2
    cases e5
    refine wpAny_truthy_bool ?_
    cases k2 with
    | false => exact ite_ff ⟨G5, J5, p5⟩
    | true =>
      refine ite_tt (test_last ?_)
      refine thn (hd.run pn z5 sg G5 _ J5 p5) fun v6 z6 ⟨x4, G6, J6, e6, p6⟩ => ?_
      refine thn (h3 pn z6 sg G6 x3 x4 v4 v6 _ J6 e4 e6 p6) fun v7 z7 ⟨y3, G7, J7, e7, k3, f3, p7⟩ => ?_
      subst f3
      cases e7
      exact wpAny_truthy_bool ⟨G7, J7, p7⟩
end
end Cc

/-! Many rounds: pairs of rounds are alike from the third on; the steps of all rounds one after another. -/
namespace Cc
open PySem PySem.Spec PyProof.Rows L2
theorem roundsF_plus (c : Int) (ss : List Stp) : ∀ (m n : Nat) (x : Int × Int), roundsF c ss (m + n) x = roundsF c ss n (roundsF c ss m x)
  | 0, n, x => by
    rw [Nat.zero_add]
    rfl
  | m + 1, n, x => by
    rw [Nat.succ_add]
    exact roundsF_plus c ss m n (stepsF c ss x)
theorem roundsF_sum (c : Int) (ss : List Stp) : ∀ (n : Nat) (r t : Int), roundsF c ss n (r, t) = ((roundsF c ss n (r, 0)).1, t + (roundsF c ss n (r, 0)).2)
  | 0, r, t => by
    show (r, t) = (r, t + 0)
    rw [Int.add_zero]
  | n + 1, r, t => by
    rw [roundsF_succ, roundsF_succ, roundsF_sum c ss n r t, stepsF_add c ss _ (t + _), stepsF_add c ss _ (roundsF c ss n (r, 0)).2]
    simp only [Prod.mk.injEq, true_and]
    omega
theorem pair_is (c : Int) (ss : List Stp) (x : Int × Int) : stepsF c (ss ++ ss) x = roundsF c ss 2 x := stepsF_app c ss ss x
theorem turnsF_pair (ss : List Stp) : turnsF (ss ++ ss) % 2 = 0 := by
  unfold turnsF
  rw [List.filter_append, List.length_append]
  omega
/-- a pair of rounds, done again, leaves the room as it is -/
theorem pair_twice {c x : Int} {ss : List Stp} (hs : ∀ s ∈ ss, s.ok c) (x0 : 0 ≤ x) (x1 : x ≤ c) : (stepsF c (ss ++ ss) ((stepsF c (ss ++ ss) (x, 0)).1, 0)).1 = (stepsF c (ss ++ ss) (x, 0)).1 := by
  have hp : ∀ s ∈ ss ++ ss, s.ok c := fun s h => (List.mem_append.mp h).elim (hs s) (hs s)
  obtain ⟨y0, y1, _⟩ := stepsF_in (t := 0) hp x0 x1 (Int.le_refl 0)
  obtain ⟨ok, _, e1⟩ := smSteps_says x0 x1 (ss ++ ss) hp
  obtain ⟨_, _, e2⟩ := smSteps_says y0 y1 (ss ++ ss) hp
  have ht : (smSteps c (ss ++ ss)).turned = false := by
    rw [turned_is, turnsF_pair]
    rfl
  rw [ht] at e1 e2
  generalize (stepsF c (ss ++ ss) ((stepsF c (ss ++ ss) (x, 0)).1, 0)).1 = z at *
  generalize (stepsF c (ss ++ ss) (x, 0)).1 = y at *
  generalize smSteps c (ss ++ ss) = m at *
  obtain ⟨low, high, extra, goal, turned⟩ := m
  have lh := ok.lh
  simp only at e1 e2 lh
  cases goal with
  | none =>
    simp [placeF, sideF, clampF] at e1 e2
    omega
  | some g =>
    simp [placeF, sideF] at e1 e2
    omega
/-- from a number that a pair leaves: p pairs -/
theorem pairs_all {c y : Int} {ss : List Stp} (h : (stepsF c (ss ++ ss) (y, 0)).1 = y) : ∀ p : Nat, roundsF c ss (2 * p) (y, 0) = (y, p * (stepsF c (ss ++ ss) (y, 0)).2)
  | 0 => by
    show (y, 0) = (y, ((0 : Nat) : Int) * _)
    simp
  | p + 1 => by
    have e : 2 * (p + 1) = 2 * p + 2 := by omega
    rw [e, roundsF_plus, pairs_all h p, ← pair_is, stepsF_add, h]
    simp only [Prod.mk.injEq, true_and]
    rw [Int.natCast_succ, Int.add_mul, Int.one_mul]
theorem rounds_fix {c r : Int} {ss : List Stp} (hs : ∀ s ∈ ss, s.ok c) (r0 : 0 ≤ r) (r1 : r ≤ c) (m : Nat) : (stepsF c (ss ++ ss) ((roundsF c ss (m + 2) (r, 0)).1, 0)).1 = (roundsF c ss (m + 2) (r, 0)).1 := by
  obtain ⟨a0, a1, _⟩ := roundsF_in (n := m) (t := 0) hs r0 r1 (Int.le_refl 0)
  have e : (roundsF c ss (m + 2) (r, 0)).1 = (stepsF c (ss ++ ss) ((roundsF c ss m (r, 0)).1, 0)).1 := by
    rw [roundsF_plus, pair_is, roundsF_sum c ss 2 (roundsF c ss m (r, 0)).1 (roundsF c ss m (r, 0)).2]
  rw [e]
  exact pair_twice hs a0 a1
/-- m + 2 rounds, then p pairs -/
theorem rounds_pairs {c r : Int} {ss : List Stp} (hs : ∀ s ∈ ss, s.ok c) (r0 : 0 ≤ r) (r1 : r ≤ c) (m p : Nat) :
    roundsF c ss (m + 2 + 2 * p) (r, 0) = ((roundsF c ss (m + 2) (r, 0)).1, (roundsF c ss (m + 2) (r, 0)).2 + p * (stepsF c (ss ++ ss) ((roundsF c ss (m + 2) (r, 0)).1, 0)).2) := by
  rw [roundsF_plus c ss (m + 2), roundsF_sum c ss (2 * p) (roundsF c ss (m + 2) (r, 0)).1 (roundsF c ss (m + 2) (r, 0)).2, pairs_all (rounds_fix hs r0 r1 m)]
theorem afterF_is {c r : Int} {ss : List Stp} (hs : ∀ s ∈ ss, s.ok c) (r0 : 0 ≤ r) (r1 : r ≤ c) (n : Nat) : afterF c ss r n = roundsF c ss n (r, 0) := rfl
/-- the code's own way: two or three rounds singly, the rest in pairs all alike -/
theorem few_is {c r : Int} {ss : List Stp} (hs : ∀ s ∈ ss, s.ok c) (r0 : 0 ≤ r) (r1 : r ≤ c) {n : Nat} (h : 2 ≤ n) :
    afterF c ss r n = ((stepsF c (ss ++ ss) ((roundsF c ss (2 + n % 2) (r, 0)).1, 0)).1, (roundsF c ss (2 + n % 2) (r, 0)).2 + ((n - (2 + n % 2)) / 2 : Nat) * (stepsF c (ss ++ ss) ((roundsF c ss (2 + n % 2) (r, 0)).1, 0)).2) := by
  have e : n = n % 2 + 2 + 2 * ((n - (2 + n % 2)) / 2) := by omega
  have h1 := rounds_pairs hs r0 r1 (n % 2) ((n - (2 + n % 2)) / 2)
  rw [← e] at h1
  unfold afterF
  rw [h1, Nat.add_comm 2 (n % 2), rounds_fix hs r0 r1]
/-- two parts of the rounds -/
theorem rounds_parts (c : Int) (ss : List Stp) (r : Int) (m n : Nat) : (roundsF c ss (m + n) (r, 0)).1 = (roundsF c ss n ((roundsF c ss m (r, 0)).1, 0)).1 ∧ (roundsF c ss (m + n) (r, 0)).2 = (roundsF c ss m (r, 0)).2 + (roundsF c ss n ((roundsF c ss m (r, 0)).1, 0)).2 := by
  rw [roundsF_plus, roundsF_sum c ss n (roundsF c ss m (r, 0)).1 (roundsF c ss m (r, 0)).2]
  exact ⟨rfl, rfl⟩
/-- each further pair carries what the third and the fourth round carry -/
theorem rounds_even {c r : Int} {ss : List Stp} (hs : ∀ s ∈ ss, s.ok c) (r0 : 0 ≤ r) (r1 : r ≤ c) (p : Nat) :
    (roundsF c ss (2 * p + 2) (r, 0)).2 = (roundsF c ss 2 (r, 0)).2 + p * ((roundsF c ss 4 (r, 0)).2 - (roundsF c ss 2 (r, 0)).2) := by
  have e : 2 * p + 2 = 0 + 2 + 2 * p := by omega
  have h1 := rounds_pairs hs r0 r1 0 p
  have h2 := rounds_pairs hs r0 r1 0 1
  simp only [Nat.zero_add] at h1 h2
  rw [e, Nat.zero_add, h1, show 4 = 2 + 2 * 1 from rfl, h2]
  simp only
  congr 1
  rw [Int.natCast_one, Int.one_mul, Int.add_comm (roundsF c ss 2 (r, 0)).2, Int.add_sub_cancel]
/-! ### the steps of all rounds -/
def cycF (ss : List Stp) (k n : Nat) : List Stp := (List.range n).map fun i => ss.getD ((k + i) % ss.length) .turn
theorem cycF_succ (ss : List Stp) (k n : Nat) : cycF ss k (n + 1) = cycF ss k n ++ [ss.getD ((k + n) % ss.length) .turn] := by
  unfold cycF
  rw [List.range_succ, List.map_append]
  rfl
theorem cycF_len (ss : List Stp) (k n : Nat) : (cycF ss k n).length = n := by
  unfold cycF
  simp only [List.length_range, List.length_map]
theorem getD_in {ss : List Stp} {i : Nat} (h : i < ss.length) : ss.getD i .turn = ss[i] := by simp [List.getD, h]
theorem getD_out {ss : List Stp} {i : Nat} (h : ss.length ≤ i) : ss.getD i .turn = .turn := by simp [List.getD, h]
theorem cycF_ok {c : Int} {ss : List Stp} (hs : ∀ s ∈ ss, s.ok c) (k n : Nat) : ∀ s ∈ cycF ss k n, s.ok c := fun s h => by
  obtain ⟨i, _, rfl⟩ := List.mem_map.mp h
  by_cases q : (k + i) % ss.length < ss.length
  · rw [getD_in q]
    exact hs _ (List.getElem_mem q)
  · rw [getD_out (by omega)]
    trivial
theorem rep_get {ss : List Stp} : ∀ (k i : Nat), i < k * ss.length → (List.replicate k ss).flatten[i]? = some (ss.getD (i % ss.length) .turn)
  | 0, i, h => by omega
  | k + 1, i, h => by
    rw [List.replicate_succ (n := k), List.flatten_cons]
    by_cases q : i < ss.length
    · rw [List.getElem?_append_left q, Nat.mod_eq_of_lt q, List.getElem?_eq_getElem q, getD_in q]
    · have h1 : (k + 1) * ss.length = k * ss.length + ss.length := Nat.succ_mul k ss.length
      rw [List.getElem?_append_right (by omega), rep_get k (i - ss.length) (by omega)]
      congr 2
      rw [Nat.mod_eq_sub_mod (by omega : i ≥ ss.length)]
theorem rep_take {ss : List Stp} {k n : Nat} (h : n ≤ k * ss.length) : ((List.replicate k ss).flatten).take n = cycF ss 0 n := by
  refine List.ext_getElem? fun i => ?_
  by_cases q : i < n
  · rw [List.getElem?_take_of_lt q, rep_get k i (by omega)]
    unfold cycF
    rw [List.getElem?_map, List.getElem?_range q]
    show _ = some (ss.getD ((0 + i) % ss.length) .turn)
    rw [Nat.zero_add]
  · rw [List.getElem?_eq_none (by rw [List.length_take]; omega), List.getElem?_eq_none (by rw [cycF_len]; omega)]
theorem Steps.rep {H : Hp} {vs : List V} {ss : List Stp} (h : Steps H vs ss) : ∀ k : Nat, Steps H (List.replicate k vs).flatten (List.replicate k ss).flatten
  | 0 => .nil
  | k + 1 => by
    simp only [List.replicate_succ, List.flatten_cons]
    exact h.append (Steps.rep h k)
theorem eqv_selfs (ns : List Int) : PyData.eqv (.list (ns.map PyData.int)) (.list (ns.map PyData.int)) = true := by
  have q : ∀ ns : List Int, PyData.eqvAll (ns.map PyData.int) (ns.map PyData.int) = true := fun ns => by
    induction ns with
    | nil => simp [PyData.eqvAll]
    | cons a ns ih => simp [PyData.eqvAll, PyData.eqv, ih]
  simp [PyData.eqv, q ns]
end Cc

/-! The steps of all rounds, cut; two meetings for all chairs. -/
namespace Cc
open PySem PySem.Spec PyProof.Rows L2
theorem cycF_cons (ss : List Stp) (k n : Nat) : cycF ss k (n + 1) = ss.getD (k % ss.length) .turn :: cycF ss (k + 1) n := by
  unfold cycF
  rw [List.range_succ_eq_map, List.map_cons, List.map_map]; refine congrArg _ (List.map_congr_left fun i _ => ?_)
  show ss.getD ((k + (i + 1)) % ss.length) .turn = ss.getD ((k + 1 + i) % ss.length) .turn
  rw [show k + (i + 1) = k + 1 + i by omega]
theorem cycF_app (ss : List Stp) : ∀ (n k m : Nat), cycF ss k (n + m) = cycF ss k n ++ cycF ss (k + n) m
  | 0, k, m => by
    rw [Nat.zero_add]
    rfl
  | n + 1, k, m => by
    rw [show n + 1 + m = (n + m) + 1 by omega, cycF_cons, cycF_cons, cycF_app ss n (k + 1) m, List.cons_append, show k + 1 + n = k + (n + 1) by omega]
theorem cycF_mod (ss : List Stp) (k m : Nat) : cycF ss (k % ss.length) m = cycF ss k m := by
  unfold cycF
  refine List.map_congr_left fun i _ => ?_; rw [Nat.mod_add_mod]
theorem carryF_app (c : Int) : ∀ (a b : List Stp) (r : Int), carryF c (a ++ b) r = carryF c a r ++ carryF c b (stepsF c a (r, 0)).1
  | [], _, _ => rfl
  | s :: a, b, r => by
    show (stepF c s r).2 :: carryF c (a ++ b) (stepF c s r).1 = (stepF c s r).2 :: (carryF c a (stepF c s r).1 ++ carryF c b (stepsF c a ((stepF c s r).1, 0 + (stepF c s r).2)).1)
    rw [carryF_app c a b, stepsF_fst c a (stepF c s r).1 (0 + (stepF c s r).2) 0]
theorem flat_rounds (c : Int) (ss : List Stp) : ∀ (n : Nat) (y : Int × Int), stepsF c (List.replicate n ss).flatten y = roundsF c ss n y
  | 0, _ => rfl
  | n + 1, y => by
    rw [List.replicate_succ, List.flatten_cons, stepsF_app, flat_rounds c ss n]
    rfl
theorem flat_len (ss : List Stp) (n : Nat) : (List.replicate n ss).flatten.length = n * ss.length := by
  rw [List.length_flatten, List.map_replicate, List.sum_replicate_nat]
theorem flat_cyc (ss : List Stp) (n : Nat) : (List.replicate n ss).flatten = cycF ss 0 (n * ss.length) := by
  rw [← rep_take (ss := ss) (k := n) (n := n * ss.length) (Nat.le_refl _), List.take_of_length_le (Nat.le_of_eq (flat_len ss n))]
/-- where the red room stands behind k steps -/
theorem reach_is {c x : Int} {ss : List Stp} (hs : ∀ s ∈ ss, s.ok c) (hne : ss ≠ []) (x0 : 0 ≤ x) (x1 : x ≤ c) (k : Nat) :
    (stepsF c (ss.take (k % ss.length)) ((afterF c ss x (k / ss.length)).1, 0)).1 = (stepsF c (cycF ss 0 k) (x, 0)).1 := by
  have pos : 0 < ss.length := List.length_pos_iff.mpr hne
  have lt : k % ss.length < ss.length := Nat.mod_lt _ pos
  have e : k = k / ss.length * ss.length + k % ss.length := (Nat.div_add_mod' k ss.length).symm
  have h1 : cycF ss 0 k = (List.replicate (k / ss.length) ss).flatten ++ ss.take (k % ss.length) := by
    have h2 : cycF ss (k / ss.length * ss.length) (k % ss.length) = ss.take (k % ss.length) := by
      rw [← cycF_mod, Nat.mul_mod_left, ← rep_take (ss := ss) (k := 1) (by omega)]
      simp
    calc cycF ss 0 k = cycF ss 0 (k / ss.length * ss.length + k % ss.length) := congrArg _ e
      _ = _ := by rw [cycF_app, Nat.zero_add, h2, ← flat_cyc]
  rw [h1, stepsF_app, flat_rounds, afterF_is hs x0 x1]
  exact stepsF_fst c _ _ _ _
/-- some of what all rounds carry -/
theorem carried_cut {c x : Int} {ss : List Stp} (hs : ∀ s ∈ ss, s.ok c) (hne : ss ≠ []) (x0 : 0 ≤ x) (x1 : x ≤ c) {n k m : Nat} (h : k + m ≤ n * ss.length) :
    ((carryF c (List.replicate n ss).flatten x).drop k).take m = carryF c (cycF ss (k % ss.length) m) (stepsF c (ss.take (k % ss.length)) ((afterF c ss x (k / ss.length)).1, 0)).1 := by
  rw [reach_is hs hne x0 x1, cycF_mod, flat_cyc, show n * ss.length = k + (m + (n * ss.length - (k + m))) by omega, cycF_app, cycF_app, carryF_app, carryF_app, Nat.zero_add]
  rw [List.drop_append_of_le_length (by rw [carryF_len, cycF_len]; omega), List.drop_of_length_le (by rw [carryF_len, cycF_len]; omega), List.nil_append, List.take_append_of_le_length (by rw [carryF_len, cycF_len]; omega), List.take_of_length_le (by rw [carryF_len, cycF_len]; omega)]
/-! ### two meetings for all chairs -/
def altN (n : Int) : List Stp := [.meet true n, .meet false n]
theorem altN_get (n : Int) (k : Nat) : (altN n).getD (k % (altN n).length) .turn = if k % 2 = 0 then .meet true n else .meet false n := by
  show (altN n).getD (k % 2) .turn = _
  rcases Nat.mod_two_eq_zero_or_one k with h | h <;> rw [h] <;> rfl
theorem alt_carry {n : Int} (n0 : 0 ≤ n) : ∀ (m k : Nat) (r : Int), r = (if k % 2 = 0 then 0 else n) → carryF n (cycF (altN n) k m) r = List.replicate m n
  | 0, _, _, _ => rfl
  | m + 1, k, r, h => by
    rw [cycF_cons, altN_get]
    by_cases q : k % 2 = 0
    · rw [if_pos q] at h ⊢
      subst h
      have e : stepF n (.meet true n) 0 = (n, n) := by
        simp only [stepF, mx_eq, Prod.mk.injEq]
        omega
      show (stepF n (.meet true n) 0).2 :: carryF n (cycF (altN n) (k + 1) m) (stepF n (.meet true n) 0).1 = _
      rw [e, alt_carry n0 m (k + 1) n (by rw [if_neg (by omega)]), List.replicate_succ]
    · rw [if_neg q] at h ⊢
      subst h
      have e : stepF r (.meet false r) r = (0, r) := by
        simp only [stepF, mx_eq, Prod.mk.injEq]
        omega
      show (stepF r (.meet false r) r).2 :: carryF r (cycF (altN r) (k + 1) m) (stepF r (.meet false r) r).1 = _
      rw [e, alt_carry n0 m (k + 1) 0 (by rw [if_pos (by omega)]), List.replicate_succ]
theorem alt_step {n : Int} (n0 : 0 ≤ n) : ∀ (k : Nat), (stepsF n (cycF (altN n) 0 k) (0, 0)).1 = if k % 2 = 0 then 0 else n
  | 0 => rfl
  | k + 1 => by
    rw [cycF_succ, stepsF_one, alt_step n0 k, Nat.zero_add, altN_get]
    by_cases q : k % 2 = 0
    · rw [if_pos q, if_pos q, if_neg (by omega)]
      simp only [stepF, mx_eq]
      omega
    · rw [if_neg q, if_neg q, if_pos (by omega)]
      simp only [stepF, mx_eq]
      omega
theorem alt_ok {n : Int} (n0 : 0 ≤ n) : ∀ s ∈ altN n, s.ok n := fun s h => by
  rcases List.mem_cons.mp h with rfl | h2
  · exact ⟨n0, Int.le_refl n⟩
  · rw [List.mem_singleton.mp h2]
    exact ⟨n0, Int.le_refl n⟩
/-- all steps of such a plan carry all chairs -/
theorem alt_outs {n : Int} (n0 : 0 ≤ n) (k m : Nat) : carryF n (cycF (altN n) (k % (altN n).length) m) (stepsF n ((altN n).take (k % (altN n).length)) ((afterF n (altN n) 0 (k / (altN n).length)).1, 0)).1 = List.replicate m n := by
  rw [reach_is (alt_ok n0) (fun z => nomatch z) (Int.le_refl 0) n0, cycF_mod, alt_step n0]
  exact alt_carry n0 m k _ rfl
theorem ints_cut (ns : List Int) {a b : Nat} (h : b ≤ ns.length) : cutV (ns.map V.int) (some (a : Int)) (some (b : Int)) = (((ns.drop a).take (b - a)).map V.int) := by
  unfold cutV
  rw [HT.sIx_nat, HT.sIx_nat, List.length_map, Nat.min_eq_left h, List.map_take, List.map_drop]
  by_cases q : a ≤ ns.length
  · rw [Nat.min_eq_left q]
  · rw [Nat.min_eq_right (by omega), List.drop_of_length_le (by rw [List.length_map]; omega), List.drop_of_length_le (by rw [List.length_map]; omega)]
    simp
theorem rep_ints (n : Int) : ∀ k : Nat, (List.replicate k [V.int n]).flatten = (List.replicate k n).map V.int
  | 0 => rfl
  | k + 1 => by
    rw [List.replicate_succ, List.flatten_cons, rep_ints n k, List.replicate_succ]
    rfl
end Cc

/-! tuple * int, the number from 0 on. -/
namespace Cc
open PySem PySem.Spec PyProof.Rows L2
theorem tup_mul_self (l : Addr) (items : Array Value) (n : Nat) (dd : Option Addr) (sl : Array (Option Value)) (x : Int) (u : Tok) (c0 : (decide (x < -(2 ^ 63)) || decide (x ≥ 2 ^ 63)) = false) (c1 : (items.isEmpty || x == 1) = true) :
    Meets (Builtin.«tuple.__mul__» ⟨[.ref l, .int x u], []⟩) (fun _ R s => s.heap.get? l = some { cls := .type "tuple", dict := dd, data := .seq items n, slots := sl } ∧ R (.ok (.ret (.ref l))) s) := .of_wp fun prog w A R s h => by
    obtain ⟨hp, g, d, tk, os⟩ := s; obtain ⟨hl, h⟩ := h; have f1 := AutoSeq1.idx_int
    have ht : Shared.TypeIs ⟨hp, g, d, tk, os⟩ (.ref l) "tuple" := ⟨_, hl, rfl⟩
    (wp_walk using wpAny_loadPart' hl)
    repeat (first
      | ((refine wpAny_ite_false (decide_eq_false (by rw [c0]; exact Bool.false_ne_true)) ?_; wp_walk using wpAny_loadPart' hl))
      | (refine wpAny_ite_true (decide_eq_true c1) ?_; wp_walk using wpAny_loadPart' hl))
    exact ⟨_, rfl, h⟩
theorem tup_mul_none (l : Addr) (items : Array Value) (n : Nat) (dd : Option Addr) (sl : Array (Option Value)) (x : Int) (u : Tok) (c0 : (decide (x < -(2 ^ 63)) || decide (x ≥ 2 ^ 63)) = false) (c1 : (items.isEmpty || x == 1) = false) (c2 : (decide (x ≤ 0) || items.isEmpty) = true) : Meets (Builtin.«tuple.__mul__» ⟨[.ref l, .int x u], []⟩) (fun _ R s => s.heap.get? l = some { cls := .type "tuple", dict := dd, data := .seq items n, slots := sl } ∧
      R (.ok (.ret (Value.ref s.heap.objs.size))) { s with heap := s.heap.push { cls := Value.type "tuple", data := Data.seq #[] }, toks := s.toks }) := .of_wp fun prog w A R s h => by
    obtain ⟨hp, g, d, tk, os⟩ := s; obtain ⟨hl, h⟩ := h; have f1 := AutoSeq1.idx_int
    have ht : Shared.TypeIs ⟨hp, g, d, tk, os⟩ (.ref l) "tuple" := ⟨_, hl, rfl⟩
    (wp_walk using wpAny_loadPart' hl)
    repeat (first
      | (refine wpAny_ite_false (decide_eq_false (by rw [c0]; exact Bool.false_ne_true)) ?_; wp_walk using wpAny_loadPart' hl) | (refine wpAny_ite_false (decide_eq_false (by rw [c1]; exact Bool.false_ne_true)) ?_; wp_walk using wpAny_loadPart' hl)
      | (refine wpAny_ite_true (decide_eq_true c2) ?_; wp_walk using wpAny_loadPart' hl))
    exact ⟨_, rfl, h⟩
/-- t * k, k from 0 on: the same object, or a new one -/
def rRepG (K : PySem.W.Frag) : R2 := fun x y H Q => ∃ l k xs, x = .ref l ∧ y = .int k ∧ SqT K H l xs ∧ 0 ≤ k ∧ k ≤ 1000 ∧ xs.length ≤ 1000 ∧
  ((List.replicate k.toNat xs).flatten = xs → Q (.ref l) H) ∧ ∀ p, H p = none → Q (.ref p) (upd H p (.tup (List.replicate k.toNat xs).flatten))
theorem flat_none {α : Type} : ∀ n : Nat, (List.replicate n ([] : List α)).flatten = []
  | 0 => rfl
  | n + 1 => by
    rw [List.replicate_succ, List.flatten_cons, flat_none n]
    rfl
section
variable {X : Cx}
theorem op_repG : OpR X (binaryOp .Mult) (rRepG X.K) := by
  intro pins s σ H x y v u Q I rx ry h; obtain ⟨l, k, xs, rfl, rfl, hT, h0, h1, hz, q1, q2⟩ := h
  by_cases big : xs ≠ [] ∧ 2 ≤ k
  · exact op_repT pins s σ H _ _ v u Q I rx ry ⟨l, k, xs, rfl, rfl, hT, big.1, big.2, h1, hz, q2⟩
  · cases rx
    obtain ⟨t, rfl⟩ := ry
    obtain ⟨its, r, ⟨⟨cls, dd, data, sl⟩, ho, hc, n, hd⟩, hs⟩ := I.tuple hT; simp only at hc hd
    subst hc hd
    have hle : its.length = xs.length := r.length.symm; have c0 : (decide (k < -(2 ^ 63)) || decide (k ≥ 2 ^ 63)) = false := by
      (rw [decide_eq_false (by omega), decide_eq_false (by omega)] <;> rfl)
    by_cases sm : xs = [] ∨ k = 1
    · have c1 : (its.toArray.isEmpty || k == 1) = true := by
        rcases sm with e | e
        · subst e
          have : its = [] := List.eq_nil_of_length_eq_zero hle
          subst this
          rfl
        · subst e
          simp
      have ef : (List.replicate k.toNat xs).flatten = xs := by
        rcases sm with e | e
        · subst e
          exact flat_none _
        · subst e
          simp
      refine wpAny_binaryOp_repeat_ref (T := "tuple") (U := "int") (by decide) ⟨_, ho, rfl⟩ (fun s' => typeIs_int s' k t) noFill_tuple_mul F.fills_int_mul F.slot_int_rmul repeat_tuple F.slot_int_index.lookup (call_meets F.slot_int_rmul (typeIs_int s k t) F.entry_int_rmul (F.args_int_rmul_2 _ _) (int_rmul_tuple k t l its.toArray n dd sl)
          ⟨ho, rfl, ⟨_, ho, rfl⟩, call_meets F.slot_tuple_mul ⟨_, ho, rfl⟩ F.entry_tuple_mul (F.args_tuple_mul_2 _ _) (tup_mul_self l its.toArray n dd sl k t c0 c1) ⟨ho, ?_⟩⟩)
      exact ⟨.ref l, _, I, rfl, q1 ef⟩
    · have hne : xs ≠ [] := fun e => sm (.inl e)
      have k0 : k = 0 := by
        have : k ≠ 1 := fun e => sm (.inr e)
        have : ¬ 2 ≤ k := fun e => big ⟨hne, e⟩
        omega
      subst k0; have hn : its ≠ [] := fun e => hne (by
        rw [e] at hle; exact List.eq_nil_of_length_eq_zero hle.symm)
      have hi : (its.toArray.isEmpty = false) := by
        cases its with
        | nil => exact absurd rfl hn
        | cons a b => rfl
      have c1 : (its.toArray.isEmpty || (0 : Int) == 1) = false := by rw [hi]; rfl
      refine wpAny_binaryOp_repeat_ref (T := "tuple") (U := "int") (by decide) ⟨_, ho, rfl⟩ (fun s' => typeIs_int s' 0 t) noFill_tuple_mul F.fills_int_mul F.slot_int_rmul repeat_tuple F.slot_int_index.lookup
        (call_meets F.slot_int_rmul (typeIs_int s 0 t) F.entry_int_rmul (F.args_int_rmul_2 _ _) (int_rmul_tuple 0 t l its.toArray n dd sl)
          ⟨ho, rfl, ⟨_, ho, rfl⟩, call_meets F.slot_tuple_mul ⟨_, ho, rfl⟩ F.entry_tuple_mul (F.args_tuple_mul_2 _ _) (tup_mul_none l its.toArray n dd sl 0 t c0 c1 rfl) ⟨ho, ?_⟩⟩)
      refine ⟨.ref s.heap.objs.size, _, I.laid (t' := s.toks) (o := .tup []) (fun b ob q => Heap.get?_push_of_some _ q) (Nat.le_refl _) ?_, rfl, q2 _ (I.hok.fresh (Nat.le_refl _))⟩
      exact ⟨Nat.zero_le _, _, .nil, IsTup.new _ _⟩
end
/-- step == TURN -/
def isT : Stp → Bool
  | .turn => true
  | .meet _ _ => false
def rTurn (K : PySem.W.Frag) : R2 := fun x y Hh Qz => ∃ t st p, x = .ref t ∧ Hh t = some (.tup (stpV st)) ∧ y = .ref p ∧ SqT K Hh p [.str "turn"] ∧ Qz (.bl (isT st)) Hh
theorem op_eqTurn {X : Cx} (hu : X.A.units + 64 < cLine) : OpR X (compareOp .Eq) (rTurn X.K) := by
  intro pins s σ H x y v u Q I rx ry h; obtain ⟨t, st, p, rfl, ht, rfl, hp, q⟩ := h
  refine op_eqD hu pins s σ H _ _ v u Q I rx ry ?_
  cases st with
  | turn =>
    refine ⟨.tuple [.str "turn"], .tuple [.str "turn"], .tup (SqT.of ht) (.cons (.str _) .nil), .tup hp (.cons (.str _) .nil), by decide +kernel, by decide +kernel, ?_⟩
    rw [eqv_turn]
    exact q
  | meet b n =>
    refine ⟨.tuple [.str (roomS b), .int n], .tuple [.str "turn"], .tup (SqT.of ht) (.cons (.str _) (.cons (.int _) .nil)), .tup hp (.cons (.str _) .nil), shaped_meet b n, by decide +kernel, ?_⟩
    rw [eqv_meet]
    exact q
end Cc

namespace Cc
open PySem PySem.Spec PyProof.Rows L2
/-- few_rounds -/
def fewF (n : Int) : Int := if n < 2 then n else 2 + n % 2
def spFew : Sp := fun vs H Q _ => ∃ (n : Int), vs = [.int n] ∧ Q (.int (fewF n)) H
def spARounds (C : Addr) : Sp := fun vs H Q _ => ∃ (p : Addr) (ss : List Stp) (c r n : Int), vs = [.ref p, .int c, .int r, .int n] ∧ PlanAt C H p ss ∧ ss.length ≤ 60 ∧ (∀ s ∈ ss, s.ok c) ∧ 0 ≤ r ∧ r ≤ c ∧ 0 ≤ n ∧ n ≤ 1000000000000000000 ∧
  ∀ q H', Same H H' → H' q = some (.tup [.int (afterF c ss r n.toNat).1, .int (afterF c ss r n.toNat).2]) → Q (.ref q) H'
/-- the steps of a plan, read -/
theorem PlanAt.tup {K : PySem.W.Frag} {C : Addr} {H : Hp} {p : Addr} {ss : List Stp} (h : PlanAt C H p ss) : ∃ dx tp ws, H p = some (.ins C dx [("step_tuple", .ref tp)]) ∧ SqT K H tp ws ∧ (∀ H', Same H H' → SqT K H' tp ws) ∧ Steps H ws ss :=
  let ⟨dx, tp, ws, a, b, d⟩ := h
  ⟨dx, tp, ws, a, SqT.of b, fun H' s => SqT.of (s _ _ b), d⟩
/-- steps again and again -/
theorem rep_steps {K : PySem.W.Frag} {H : Hp} {tp : Addr} {ws : List V} {ss : List Stp} {n : Int} {Q : VK} (h : SqT K H tp ws) (hk : ∀ H', Same H H' → SqT K H' tp ws) (hs : Steps H ws ss) (n0 : 0 ≤ n) (n1 : n ≤ 1000) (hl : ss.length ≤ 1000)
    (k : ∀ q us H', Same H H' → SqT K H' q us → (∀ H2, Same H' H2 → SqT K H2 q us) → Steps H' us (List.replicate n.toNat ss).flatten → Q (.ref q) H') : rRepG K (.ref tp) (.int n) H Q :=
  ⟨tp, n, ws, rfl, rfl, h, n0, n1, by rw [hs.length]; exact hl, fun e => k tp ws H (Same.refl H) h hk (by have z := hs.rep n.toNat; rw [e] at z; exact z),
    fun p hp => k p _ _ (same_upd hp) (SqT.of upd_same) (fun H2 s2 => SqT.of (s2 _ _ upd_same)) ((hs.rep n.toNat).same (same_upd hp))⟩
section
variable {P : Program} {w : World} {K : PySem.W.Frag} {mg : Str → Option Value} {base : Heap} {C TU pS gS : Addr} {mc : Value}
abbrev s_few_rounds : Stmt := top 21
abbrev n_few_rounds : List Str := ["rounds"]
theorem sc_few_rounds : FnScope n_few_rounds ["rounds"] (defScope s_few_rounds) := ⟨rfl, rfl, rfl, by decide +kernel, rfl, by decide +kernel, by decide +kernel⟩
theorem ok_few_rounds {f : Addr} {fd : FuncData} (F : Fun K "few_rounds" "few_rounds" s_few_rounds f fd)  : FnOk P w K mg base CX0 1 f fd ["rounds"] spFew := by
  refine F.ok sc_few_rounds (fun vs H Q E h => ?_) (fun cdv A outer s H vs Q E hr h => ?_)
  · obtain ⟨n, rfl, _⟩ := h
    rfl
  · obtain ⟨n, rfl, k⟩ := h
    refine ⟨_, pss_one (ps_ret (pe_ifExp (pt_cmpR op_lt (pv 0) pe_int (nomark _)) (pv 0) (pe_op op_add pe_int (pe_op op_mod (pv 0) pe_int)))), ?_⟩
    refine ⟨_, rfl, _, _, rfl, rfl, _, rfl, ?_⟩
    unfold fewF at k
    by_cases q : n < 2
    · rw [if_pos q] at k
      exact ifT (decide_eq_true q) ⟨_, rfl, k⟩
    · rw [if_neg q] at k
      exact ifF (decide_eq_false q) ⟨_, rfl, _, _, rfl, rfl, (by show (0 : Int) < 2; decide), _, _, rfl, rfl, k⟩
abbrev s_after_rounds : Stmt := top 20
abbrev n_after_rounds : List Str := ["plan", "chairs", "red", "rounds", "few", "total", "carried"]
theorem sc_after_rounds : FnScope n_after_rounds ["plan", "chairs", "red", "rounds"] (defScope s_after_rounds) := ⟨rfl, rfl, rfl, by decide +kernel, rfl, by decide +kernel, by decide +kernel⟩
theorem ok_after_rounds {f f_few_rounds f_after_steps : Addr} {fd fdS : FuncData} (F : Fun K "after_rounds" "after_rounds" s_after_rounds f fd) (T : Txt K mg C TU pS gS mc) (G : Gs P w K mg base C gS fdS) (D_few_rounds : Dn P w K mg base 1 "few_rounds" f_few_rounds spFew) (D_after_steps : Dn P w K mg base 2 "after_steps" f_after_steps (spASteps K)) : FnOk P w K mg base CX0 3 f fd ["plan", "chairs", "red", "rounds"] (spARounds C) := by
  refine F.ok sc_after_rounds (fun vs H Q E h => ?_) (fun cdv A outer s H vs Q E hr h => ?_)
  · obtain ⟨p, ss, c, r, n, rfl, _⟩ := h
    rfl
  · obtain ⟨p, ss, c, r, n, rfl, hp, hl, hs, r0, r1, h0, h1, k⟩ := h
    refine ⟨_, pss_cons (ps_set (i := 4) sc_after_rounds.nd rfl (.inl rfl) (pe_callR D_few_rounds.ok (hr.mono (by decide)) rfl D_few_rounds.at_ D_few_rounds.kp pass0 (pa_cons (pv 3) pa_nil)))
      (pss_cons (ps_asg (pe_callR D_after_steps.ok (hr.mono (by decide)) rfl D_after_steps.at_ D_after_steps.kp pass0 (pa_cons (pe_op op_repG (pe_prop (pv 0) T.cl T.pr G.ok (hr.mono (by decide)) G.b .nil pass0 rfl) (pv 4)) (pa_cons (pv 1) (pa_cons (pv 2) pa_nil)))) (pg_tup rfl (pgs_cons (pg_name (i := 2) sc_after_rounds.nd rfl (.inl rfl)) (pgs_cons (pg_name (i := 5) sc_after_rounds.nd rfl (.inl rfl)) pgs_nil))))
      (pss_cons (ps_if (pt_cmpR op_lt (pv 4) (pv 3) (nomark _))
        (pss_cons (ps_asg (pe_callR D_after_steps.ok (hr.mono (by decide)) rfl D_after_steps.at_ D_after_steps.kp pass0 (pa_cons (pe_op op_repG (pe_prop (pv 0) T.cl T.pr G.ok (hr.mono (by decide)) G.b .nil pass0 rfl) pe_int) (pa_cons (pv 1) (pa_cons (pv 2) pa_nil)))) (pg_tup rfl (pgs_cons (pg_name (i := 2) sc_after_rounds.nd rfl (.inl rfl)) (pgs_cons (pg_name (i := 6) sc_after_rounds.nd rfl (.inl rfl)) pgs_nil))))
        (pss_one (ps_aug (i := 5) sc_after_rounds.nd rfl (.inl rfl) (pe_op op_mul (pe_op op_fdiv (pe_op op_sub (pv 3) (pv 4)) pe_int) (pv 6)) ip_add))) pss_nil)
      (pss_one (ps_ret (pe_tup (pa_cons (pv 2) (pa_cons (pv 5) pa_nil))))))), ?_⟩
    refine ⟨_, rfl, n, rfl, ?_⟩
    obtain ⟨m, hm⟩ : ∃ m : Nat, n = (m : Int) := ⟨n.toNat, by omega⟩
    obtain ⟨fw, hfw⟩ : ∃ fw : Nat, fewF n = (fw : Int) := ⟨(fewF n).toNat, by unfold fewF; split <;> omega⟩
    have hfm : fw = if m < 2 then m else 2 + m % 2 := by
      unfold fewF at hfw
      split at hfw <;> split <;> omega
    rw [hfw]
    have fw3 : fw ≤ 3 := by split at hfm <;> omega
    obtain ⟨dx, tp, ws, e1, e2, e3, e4⟩ := hp.tup (K := K)
    refine ⟨_, rfl, p, dx, _, rfl, e1, p, dx, _, _, rfl, e1, lk_self, _, rfl, rep_steps e2 e3 e4 (by omega) (by omega) (by omega) fun q us H1 s1 g1 g2 g3 => ?_⟩
    rw [Int.toNat_natCast] at g3
    refine ⟨_, rfl, _, rfl, q, us, _, c, r, rfl, g1, g2, g3, fun t H2 s2 g4 => ?_⟩
    rw [flat_rounds] at g4
    have s02 := s1.trans s2
    refine ⟨t, _, rfl, SqT.of g4, rfl, _, _, rfl, _, _, rfl, rfl, ?_⟩
    refine ⟨_, rfl, _, rfl, _, _, rfl, rfl, _, rfl, ?_⟩
    rw [hm, Int.toNat_natCast] at k
    by_cases c2 : 2 ≤ m ∧ fw < m
    · refine ifT (decide_eq_true (by omega)) ?_
      have hk := few_is hs r0 r1 (n := m) c2.1
      rw [if_neg (by omega)] at hfm
      rw [← hfm] at hk
      obtain ⟨dx, tp, ws, e1, e2, e3, e4⟩ := (hp.same s02).tup (K := K)
      refine ⟨_, rfl, p, dx, _, rfl, e1, p, dx, _, _, rfl, e1, lk_self, ?_⟩
      dsimp only [tC]
      refine rep_steps e2 e3 e4 (by omega) (by omega) (by omega) fun q us H3 s3 g1 g2 g3 => ?_
      have e5 : (List.replicate (2 : Int).toNat ss).flatten = ss ++ ss := by
        show ss ++ (ss ++ []) = ss ++ ss
        rw [List.append_nil]
      rw [e5] at g3
      refine ⟨_, rfl, _, rfl, q, us, _, c, _, rfl, g1, g2, g3, fun t H4 s4 g5 => ?_⟩
      refine ⟨t, _, rfl, SqT.of g5, rfl, _, _, rfl, _, _, rfl, rfl, ?_⟩
      refine ⟨_, rfl, _, rfl, _, rfl, _, _, rfl, rfl, _, _, rfl, rfl, ⟨by decide, by decide⟩, _, rfl, _, _, rfl, rfl, .inl ⟨by omega, by omega⟩, _, _, rfl, rfl, ?_⟩
      refine ⟨_, rfl, _, rfl, by show 2 ≤ sizeLine; decide, fun z hz => ?_⟩
      refine k z _ ((s02.trans (s3.trans s4)).trans (same_upd hz)) ?_
      have e6 : ((m : Int) - (fw : Int)) / 2 = (((m - fw) / 2 : Nat) : Int) := by omega
      rw [hk, hm, e6]
      exact upd_same
    · have e6 : m = fw := by
        split at hfm <;> omega
      refine ifF (decide_eq_false (by omega)) ?_
      refine ⟨_, rfl, _, rfl, by show 2 ≤ sizeLine; decide, fun z hz => ?_⟩
      refine k z _ (s02.trans (same_upd hz)) ?_
      unfold afterF
      rw [e6]
      exact upd_same
end
end Cc

namespace Cc
open PySem PySem.Spec PyProof.Rows L2
def spChkStart (C : Addr) : Sp := fun vs H Q _ => ∃ (p : Addr) (c r : Int) (ss : List Stp), vs = [.ref p, .int c, .int r] ∧ PlanAt C H p ss ∧ 0 ≤ c ∧ c ≤ 1000000000000000000 ∧ (∀ s ∈ ss, s.ok c) ∧ ss.length ≤ 60 ∧ 0 ≤ r ∧ r ≤ c ∧ ∀ H', Same H H' → Q .non H'
def spChkRounds (C : Addr) : Sp := fun vs H Q _ => ∃ (p : Addr) (ss : List Stp) (c r n : Int), vs = [.ref p, .int c, .int r, .int n] ∧ PlanAt C H p ss ∧ ss.length ≤ 60 ∧ (∀ s ∈ ss, s.ok c) ∧ 0 ≤ c ∧ c ≤ 1000000000000000000 ∧ 0 ≤ r ∧ r ≤ c ∧ 0 ≤ n ∧ n ≤ 1000000000000000000 ∧
  ∀ q H', Same H H' → H' q = some (.tup [.int (afterF c ss r n.toNat).1, .int (afterF c ss r n.toNat).2]) → Q (.ref q) H'
def spTotal (C : Addr) : Sp := fun vs H Q _ => ∃ (p : Addr) (ss : List Stp) (c r n : Int), vs = [.ref p, .int c, .int r, .int n] ∧ PlanAt C H p ss ∧ ss.length ≤ 60 ∧ (∀ s ∈ ss, s.ok c) ∧ 0 ≤ c ∧ c ≤ 1000000000000000000 ∧ 0 ≤ r ∧ r ≤ c ∧ 0 ≤ n ∧ n ≤ 1000000000000000000 ∧
  ∀ H', Same H H' → Q (.int (afterF c ss r n.toNat).2) H'
def spRedC (C : Addr) : Sp := fun vs H Q _ => ∃ (p : Addr) (ss : List Stp) (c r n : Int), vs = [.ref p, .int c, .int r, .int n] ∧ PlanAt C H p ss ∧ ss.length ≤ 60 ∧ (∀ s ∈ ss, s.ok c) ∧ 0 ≤ c ∧ c ≤ 1000000000000000000 ∧ 0 ≤ r ∧ r ≤ c ∧ 0 ≤ n ∧ n ≤ 1000000000000000000 ∧
  ∀ H', Same H H' → Q (.int (afterF c ss r n.toNat).1) H'
section
variable {P : Program} {w : World} {K : PySem.W.Frag} {mg : Str → Option Value} {base : Heap} {C TU pS gS : Addr} {mc : Value}
abbrev s_check_start : Stmt := top 12
abbrev n_check_start : List Str := ["plan", "chairs", "start"]
theorem sc_check_start : FnScope n_check_start ["plan", "chairs", "start"] (defScope s_check_start) := ⟨rfl, rfl, rfl, by decide +kernel, rfl, by decide +kernel, by decide +kernel⟩
theorem ok_check_start {f f_check_house f_check_number : Addr} {fd : FuncData} (F : Fun K "check_start" "check_start" s_check_start f fd) (D_check_house : Dn P w K mg base 3 "check_house" f_check_house (spChkHouse C)) (D_check_number : Dn P w K mg base 2 "check_number" f_check_number spChkNum) : FnOk P w K mg base CX0 4 f fd ["plan", "chairs", "start"] (spChkStart C) := by
  refine F.ok sc_check_start (fun vs H Q E h => ?_) (fun cdv A outer s H vs Q E hr h => ?_)
  · obtain ⟨p, c, r, ss, rfl, _⟩ := h
    rfl
  · obtain ⟨p, c, r, ss, rfl, hp, c0, c1, hs, hl, r0, r1, k⟩ := h
    refine ⟨_, pss_cons (ps_expr (pe_callR D_check_house.ok (hr.mono (by decide)) rfl D_check_house.at_ D_check_house.kp pass0 (pa_cons (pv 0) (pa_cons (pv 1) pa_nil))))
      (pss_one (ps_expr (pe_callR D_check_number.ok (hr.mono (by decide)) rfl D_check_number.at_ D_check_number.kp pass0 (pa_cons (pv 2) (pa_cons pe_int (pa_cons (pv 1) pa_nil)))))), ?_⟩
    exact ⟨_, rfl, _, rfl, p, c, ss, rfl, hp, c0, c1, hs, hl, fun H1 s1 => ⟨_, rfl, _, rfl, r, 0, c, rfl, r0, r1, k H1 s1⟩⟩
abbrev s_checked_rounds : Stmt := top 37
abbrev n_checked_rounds : List Str := ["plan", "chairs", "start", "rounds"]
theorem sc_checked_rounds : FnScope n_checked_rounds ["plan", "chairs", "start", "rounds"] (defScope s_checked_rounds) := ⟨rfl, rfl, rfl, by decide +kernel, rfl, by decide +kernel, by decide +kernel⟩
theorem ok_checked_rounds {f f_check_start f_check_number f_after_rounds : Addr} {fd : FuncData} (F : Fun K "checked_rounds" "checked_rounds" s_checked_rounds f fd) (g_MAX_ROUNDS : ∃ u, mg "MAX_ROUNDS" = some u ∧ RelV (.int 1000000000000000000) u) (D_check_start : Dn P w K mg base 4 "check_start" f_check_start (spChkStart C)) (D_check_number : Dn P w K mg base 2 "check_number" f_check_number spChkNum) (D_after_rounds : Dn P w K mg base 3 "after_rounds" f_after_rounds (spARounds C)) : FnOk P w K mg base CX0 5 f fd ["plan", "chairs", "start", "rounds"] (spChkRounds C) := by
  refine F.ok sc_checked_rounds (fun vs H Q E h => ?_) (fun cdv A outer s H vs Q E hr h => ?_)
  · obtain ⟨p, ss, c, r, n, rfl, _⟩ := h
    rfl
  · obtain ⟨p, ss, c, r, n, rfl, hp, hl, hs, c0, c1, r0, r1, n0, n1, k⟩ := h
    obtain ⟨u_MAX_ROUNDS, m_MAX_ROUNDS, r_MAX_ROUNDS⟩ := g_MAX_ROUNDS
    refine ⟨_, pss_cons (ps_expr (pe_callR D_check_start.ok (hr.mono (by decide)) rfl D_check_start.at_ D_check_start.kp pass0 (pa_cons (pv 0) (pa_cons (pv 1) (pa_cons (pv 2) pa_nil)))))
      (pss_cons (ps_expr (pe_callR D_check_number.ok (hr.mono (by decide)) rfl D_check_number.at_ D_check_number.kp pass0 (pa_cons (pv 3) (pa_cons pe_int (pa_cons (pe_glob rfl m_MAX_ROUNDS r_MAX_ROUNDS) pa_nil)))))
      (pss_one (ps_ret (pe_callR D_after_rounds.ok (hr.mono (by decide)) rfl D_after_rounds.at_ D_after_rounds.kp pass0 (pa_cons (pv 0) (pa_cons (pv 1) (pa_cons (pv 2) (pa_cons (pv 3) pa_nil)))))))), ?_⟩
    refine ⟨_, rfl, _, rfl, _, rfl, p, c, r, ss, rfl, hp, c0, c1, hs, hl, r0, r1, fun H1 s1 => ?_⟩
    refine ⟨_, rfl, n, 0, _, rfl, n0, n1, ?_⟩
    exact ⟨_, rfl, _, rfl, _, rfl, _, rfl, p, ss, c, r, n, rfl, hp.same s1, hl, hs, r0, r1, n0, n1, fun q H2 s2 e2 => k q H2 (s1.trans s2) e2⟩
abbrev s_total_carried : Stmt := top 35
abbrev n_total_carried : List Str := ["plan", "chairs", "start", "rounds"]
theorem sc_total_carried : FnScope n_total_carried ["plan", "chairs", "start", "rounds"] (defScope s_total_carried) := ⟨rfl, rfl, rfl, by decide +kernel, rfl, by decide +kernel, by decide +kernel⟩
theorem ok_total_carried {f f_checked_rounds : Addr} {fd : FuncData} (F : Fun K "total_carried" "total_carried" s_total_carried f fd) (D_checked_rounds : Dn P w K mg base 5 "checked_rounds" f_checked_rounds (spChkRounds C)) : FnOk P w K mg base CX0 6 f fd ["plan", "chairs", "start", "rounds"] (spTotal C) := by
  refine F.ok sc_total_carried (fun vs H Q E h => ?_) (fun cdv A outer s H vs Q E hr h => ?_)
  · obtain ⟨p, ss, c, r, n, rfl, _⟩ := h
    rfl
  · obtain ⟨p, ss, c, r, n, rfl, hp, hl, hs, c0, c1, r0, r1, n0, n1, k⟩ := h
    refine ⟨_, pss_one (ps_ret (pe_ix ix_tup (pe_callR D_checked_rounds.ok (hr.mono (by decide)) rfl D_checked_rounds.at_ D_checked_rounds.kp pass0 (pa_cons (pv 0) (pa_cons (pv 1) (pa_cons (pv 2) (pa_cons (pv 3) pa_nil))))) pe_int (fun _ _ => rfl))), ?_⟩
    refine ⟨_, rfl, _, rfl, _, rfl, _, rfl, p, ss, c, r, n, rfl, hp, hl, hs, c0, c1, r0, r1, n0, n1, fun q H1 s1 e1 => ?_⟩
    exact ⟨q, _, 1, _, rfl, rfl, SqT.of e1, at_of (j := 1) rfl rfl, k H1 s1⟩
abbrev s_red_chairs : Stmt := top 36
abbrev n_red_chairs : List Str := ["plan", "chairs", "start", "rounds"]
theorem sc_red_chairs : FnScope n_red_chairs ["plan", "chairs", "start", "rounds"] (defScope s_red_chairs) := ⟨rfl, rfl, rfl, by decide +kernel, rfl, by decide +kernel, by decide +kernel⟩
theorem ok_red_chairs {f f_checked_rounds : Addr} {fd : FuncData} (F : Fun K "red_chairs" "red_chairs" s_red_chairs f fd) (D_checked_rounds : Dn P w K mg base 5 "checked_rounds" f_checked_rounds (spChkRounds C)) : FnOk P w K mg base CX0 6 f fd ["plan", "chairs", "start", "rounds"] (spRedC C) := by
  refine F.ok sc_red_chairs (fun vs H Q E h => ?_) (fun cdv A outer s H vs Q E hr h => ?_)
  · obtain ⟨p, ss, c, r, n, rfl, _⟩ := h
    rfl
  · obtain ⟨p, ss, c, r, n, rfl, hp, hl, hs, c0, c1, r0, r1, n0, n1, k⟩ := h
    refine ⟨_, pss_one (ps_ret (pe_ix ix_tup (pe_callR D_checked_rounds.ok (hr.mono (by decide)) rfl D_checked_rounds.at_ D_checked_rounds.kp pass0 (pa_cons (pv 0) (pa_cons (pv 1) (pa_cons (pv 2) (pa_cons (pv 3) pa_nil))))) pe_int (fun _ _ => rfl))), ?_⟩
    refine ⟨_, rfl, _, rfl, _, rfl, _, rfl, p, ss, c, r, n, rfl, hp, hl, hs, c0, c1, r0, r1, n0, n1, fun q H1 s1 e1 => ?_⟩
    exact ⟨q, _, 0, _, rfl, rfl, SqT.of e1, at_of (j := 0) rfl rfl, k H1 s1⟩
end
end Cc

namespace Cc
open PySem PySem.Spec PyProof.Rows L2
abbrev sEffect : Stmt := top 39
abbrev sAllow : Stmt := top 40
abbrev sNarrow : Stmt := top 41
abbrev sNear : Stmt := top 42
def smV (m : Sm) : List V := [.int m.low, .int m.high, .int m.extra, goalV m.goal, .bl m.turned]
def spAllow : Sp := fun vs H Q _ => ∃ (v : V) (b t : Bool) (c n : Int), vs = [v, .int c, .bl t] ∧ StepAt H v (.meet b n) ∧ ∀ p H', Same H H' → H' p = some (.tup [.int (allowF c t b n).1, .int (allowF c t b n).2]) → Q (.ref p) H'
def spNarrow : Sp := fun vs H Q _ => ∃ (lo hi a b : Int), vs = [.int lo, .int hi, .int a, .int b] ∧ ∀ p H', Same H H' → H' p = some (.tup [.int (narrowF lo hi a b).1, .int (narrowF lo hi a b).2.1, .int (narrowF lo hi a b).2.2.1, goalV (narrowF lo hi a b).2.2.2]) → Q (.ref p) H'
def spNear : Sp := fun vs H Q _ => ∃ (g a b : Int), vs = [.int g, .int a, .int b] ∧ Q (.int (nearF g a b)) H
def spEffect (K : PySem.W.Frag) : Sp := fun vs H Q _ => ∃ (t : Addr) (ws : List V) (ss : List Stp) (c : Int), vs = [.ref t, .int c] ∧ SqT K H t ws ∧ (∀ H', Same H H' → SqT K H' t ws) ∧ Steps H ws ss ∧ ∀ q H', Same H H' → H' q = some (.tup (smV (smEnd (smSteps c ss)))) → Q (.ref q) H'
section
variable {P : Program} {w : World} {K : PySem.W.Frag} {mg : Str → Option Value} {base : Heap} {C TU pS gS : Addr} {mc : Value}
theorem scAllow : FnScope ["step", "chairs", "turned", "room", "need"] ["step", "chairs", "turned"] (defScope sAllow) := ⟨rfl, rfl, rfl, by decide +kernel, rfl, by decide +kernel, by decide +kernel⟩
theorem bl_eq (a t : Bool) : decide (V.bl a = V.bl t) = (a == t) := by
  cases a <;> cases t <;> decide
theorem ok_allow {f : Addr} {fd : FuncData} (F : Fun K "allowed_range" "allowed_range" sAllow f fd) : FnOk P w K mg base CX0 1 f fd ["step", "chairs", "turned"] spAllow := by
  refine F.ok scAllow (fun vs H Q E h => ?_) (fun cdv A outer s H vs Q E hr h => ?_)
  · obtain ⟨v, b, t, c, n, rfl, _⟩ := h
    rfl
  · obtain ⟨v, b, tt, c, n, rfl, ⟨t, rfl, ht⟩, k⟩ := h
    refine ⟨_, pss_cons (ps_asg (pv 0) (pg_tup rfl (pgs_cons (pg_name (i := 3) scAllow.nd rfl (.inl rfl)) (pgs_cons (pg_name (i := 4) scAllow.nd rfl (.inl rfl)) pgs_nil))))
      (pss_cons (ps_if (pt_cmpR op_eq (pe_cmpR op_eq (pv 3) pe_str (nomark _)) (pv 2) (nomark _)) (pss_one (ps_ret (pe_tup (pa_cons pe_int (pa_cons (pe_op op_sub (pv 1) (pv 4)) pa_nil))))) pss_nil)
      (pss_one (ps_ret (pe_tup (pa_cons (pv 4) (pa_cons (pv 1) pa_nil)))))), ?_⟩
    refine ⟨_, rfl, t, _, rfl, SqT.of ht, rfl, _, _, rfl, _, _, rfl, rfl, ?_⟩
    refine ⟨_, rfl, rfl, _, rfl, rfl, _, rfl, ?_⟩
    have e : decide (V.bl (decide (V.str (roomS b) = V.str "red")) = V.bl tt) = (b == tt) := by rw [room_eq, bl_eq]
    cases hb : (b == tt) with
    | true =>
      have ea : allowF c tt b n = (0, c - n) := by
        unfold allowF
        rw [if_pos hb]
      refine ifT (e.trans hb) ⟨_, rfl, _, rfl, _, _, rfl, rfl, by show 2 ≤ sizeLine; decide, fun p hp => k p _ (same_upd hp) ?_⟩
      rw [ea]
      exact upd_same
    | false =>
      have ea : allowF c tt b n = (n, c) := by
        unfold allowF
        simp [hb]
      refine ifF (e.trans hb) ⟨_, rfl, _, rfl, by show 2 ≤ sizeLine; decide, fun p hp => k p _ (same_upd hp) ?_⟩
      rw [ea]
      exact upd_same
theorem scNarrow : FnScope ["low", "high", "least", "most"] ["low", "high", "least", "most"] (defScope sNarrow) := ⟨rfl, rfl, rfl, by decide +kernel, rfl, by decide +kernel, by decide +kernel⟩
theorem ok_narrow {f : Addr} {fd : FuncData} (F : Fun K "narrowed" "narrowed" sNarrow f fd) (B : Bt mg) : FnOk P w K mg base CX0 1 f fd ["low", "high", "least", "most"] spNarrow := by
  refine F.ok scNarrow (fun vs H Q E h => ?_) (fun cdv A outer s H vs Q E hr h => ?_)
  · obtain ⟨lo, hi, a, b, rfl, _⟩ := h
    rfl
  · obtain ⟨lo, hi, a, b, rfl, k⟩ := h
    refine ⟨_, pss_cons (ps_if (pt_cmpR op_gt (pv 2) (pv 1) (nomark _)) (pss_one (ps_ret (pe_tup (pa_cons (pv 1) (pa_cons (pv 1) (pa_cons (pe_op op_sub (pv 2) (pv 1)) (pa_cons (pv 2) pa_nil))))))) pss_nil)
      (pss_cons (ps_if (pt_cmpR op_lt (pv 3) (pv 0) (nomark _)) (pss_one (ps_ret (pe_tup (pa_cons (pv 0) (pa_cons (pv 0) (pa_cons (pe_op op_sub (pv 0) (pv 3)) (pa_cons (pv 3) pa_nil))))))) pss_nil)
      (pss_one (ps_ret (pe_tup (pa_cons (pe_callB (call_max2 rfl) (by rfl) B.max (by decide +kernel) (pa_cons (pv 0) (pa_cons (pv 2) pa_nil))) (pa_cons (pe_callB (call_min2 rfl) (by rfl) B.min (by decide +kernel) (pa_cons (pv 1) (pa_cons (pv 3) pa_nil))) (pa_cons pe_int (pa_cons pe_non pa_nil)))))))), ?_⟩
    refine ⟨_, rfl, _, rfl, _, _, rfl, rfl, _, rfl, ?_⟩
    by_cases q1 : hi < a
    · refine ifT (decide_eq_true q1) ⟨_, rfl, _, rfl, _, rfl, _, rfl, _, _, rfl, rfl, _, rfl, by show 4 ≤ sizeLine; decide, fun p hp => k p _ (same_upd hp) ?_⟩
      rw [show narrowF lo hi a b = (hi, hi, a - hi, some a) by unfold narrowF; rw [if_pos q1]]
      exact upd_same
    · refine ifF (decide_eq_false q1) ⟨_, rfl, _, rfl, _, _, rfl, rfl, _, rfl, ?_⟩
      by_cases q2 : b < lo
      · refine ifT (decide_eq_true q2) ⟨_, rfl, _, rfl, _, rfl, _, rfl, _, _, rfl, rfl, _, rfl, by show 4 ≤ sizeLine; decide, fun p hp => k p _ (same_upd hp) ?_⟩
        rw [show narrowF lo hi a b = (lo, lo, lo - b, some b) by unfold narrowF; rw [if_neg q1, if_pos q2]]
        exact upd_same
      · refine ifF (decide_eq_false q2) ⟨_, rfl, _, rfl, _, _, rfl, _, rfl, _, rfl, _, _, rfl, by show 4 ≤ sizeLine; decide, fun p hp => k p _ (same_upd hp) ?_⟩
        rw [show narrowF lo hi a b = (mx lo a, (if b < hi then b else hi), 0, none) by unfold narrowF; rw [if_neg q1, if_neg q2]]
        exact upd_same
theorem scNear : FnScope ["number", "least", "most"] ["number", "least", "most"] (defScope sNear) := ⟨rfl, rfl, rfl, by decide +kernel, rfl, by decide +kernel, by decide +kernel⟩
theorem ok_near {f : Addr} {fd : FuncData} (F : Fun K "nearest" "nearest" sNear f fd) (B : Bt mg) : FnOk P w K mg base CX0 1 f fd ["number", "least", "most"] spNear := by
  refine F.ok scNear (fun vs H Q E h => ?_) (fun cdv A outer s H vs Q E hr h => ?_)
  · obtain ⟨g, a, b, rfl, _⟩ := h
    rfl
  · obtain ⟨g, a, b, rfl, k⟩ := h
    refine ⟨_, pss_one (ps_ret (pe_callB (call_min2 rfl) (by rfl) B.min (by decide +kernel) (pa_cons (pe_callB (call_max2 rfl) (by rfl) B.max (by decide +kernel) (pa_cons (pv 0) (pa_cons (pv 1) pa_nil))) (pa_cons (pv 2) pa_nil)))), ?_⟩
    exact ⟨_, rfl, _, rfl, _, _, rfl, _, rfl, _, _, rfl, k⟩
abbrev nEffect : List Str := ["steps", "chairs", "low", "high", "extra", "goal", "turned", "step", "least", "most", "moved"]
theorem scEffect : FnScope nEffect ["steps", "chairs"] (defScope sEffect) := ⟨rfl, rfl, rfl, by decide +kernel, rfl, by decide +kernel, by decide +kernel⟩
theorem ok_effect {f f2 f3 f4 : Addr} {fd : FuncData} (F : Fun K "effect_of" "effect_of" sEffect f fd) (T : Txt K mg C TU pS gS mc) (DA : Dn P w K mg base 1 "allowed_range" f2 spAllow)
    (DN : Dn P w K mg base 1 "narrowed" f3 spNarrow) (DE : Dn P w K mg base 1 "nearest" f4 spNear) : FnOk P w K mg base CX0 2 f fd ["steps", "chairs"] (spEffect K) := by
  refine F.ok scEffect (fun vs H Q E h => ?_) (fun cdv A outer s H vs Q E hr h => ?_)
  · obtain ⟨p, ws, ss, c, rfl, _⟩ := h
    rfl
  · obtain ⟨p, ws, ss, c, rfl, hT, hT2, e3, k⟩ := h
    have r1 : Room 1 _ := hr
    refine ⟨_, pss_cons (ps_asg (pe_tup (pa_cons pe_int (pa_cons (pv 1) (pa_cons pe_int (pa_cons pe_non (pa_cons pe_bl pa_nil)))))) (pg_tup rfl (pgs_cons (pg_name (i := 2) scEffect.nd rfl (.inl rfl)) (pgs_cons (pg_name (i := 3) scEffect.nd rfl (.inl rfl)) (pgs_cons (pg_name (i := 4) scEffect.nd rfl (.inl rfl)) (pgs_cons (pg_name (i := 5) scEffect.nd rfl (.inl rfl)) (pgs_cons (pg_name (i := 6) scEffect.nd rfl (.inl rfl)) pgs_nil)))))))
      (pss_cons (ps_for PassesOwn.never rfl (pi_tup (pv 0)) (pg_name (i := 7) scEffect.nd rfl (.inl rfl))
        (pss_cons (ps_if (pt_cmpR (op_eqD hr.units) (pv 7) (pe_glob (v := .ref TU) rfl T.gT rfl) (nomark _)) (pss_cons (ps_set (i := 6) scEffect.nd rfl (.inl rfl) (pe_not (pv 6))) (pss_one ps_continue)) pss_nil)
        (pss_cons (ps_asg (pe_callR DA.ok r1 rfl DA.at_ DA.kp pass0 (pa_cons (pv 7) (pa_cons (pv 1) (pa_cons (pv 6) pa_nil)))) (pg_tup rfl (pgs_cons (pg_name (i := 8) scEffect.nd rfl (.inl rfl)) (pgs_cons (pg_name (i := 9) scEffect.nd rfl (.inl rfl)) pgs_nil))))
        (pss_one (ps_if (pt_cmpR op_isN (pv 5) pe_non (nomark _))
          (pss_one (ps_asg (pe_callR DN.ok r1 rfl DN.at_ DN.kp pass0 (pa_cons (pv 2) (pa_cons (pv 3) (pa_cons (pv 8) (pa_cons (pv 9) pa_nil))))) (pg_tup rfl (pgs_cons (pg_name (i := 2) scEffect.nd rfl (.inl rfl)) (pgs_cons (pg_name (i := 3) scEffect.nd rfl (.inl rfl)) (pgs_cons (pg_name (i := 4) scEffect.nd rfl (.inl rfl)) (pgs_cons (pg_name (i := 5) scEffect.nd rfl (.inl rfl)) pgs_nil)))))))
          (pss_cons (ps_set (i := 10) scEffect.nd rfl (.inl rfl) (pe_callR DE.ok r1 rfl DE.at_ DE.kp pass0 (pa_cons (pv 5) (pa_cons (pv 8) (pa_cons (pv 9) pa_nil)))))
          (pss_cons (ps_aug (i := 4) scEffect.nd rfl (.inl rfl) (pe_callB call_abs (by rfl) T.b.abs (by decide +kernel) (pa_cons (pe_op op_sub (pv 10) (pv 5)) pa_nil)) ip_add)
          (pss_one (ps_set (i := 5) scEffect.nd rfl (.inl rfl) (pv 10))))))))))
      (pss_cons (ps_if (PW.pt (pw_and (pt_cmpR op_eq (pv 2) (pv 3) (nomark _)) (pw_and1 (pt_cmpR op_isN (pv 5) pe_non (nomark _))))) (pss_one (ps_set (i := 5) scEffect.nd rfl (.inl rfl) (pv 2))) pss_nil)
      (pss_one (ps_ret (pe_tup (pa_cons (pv 2) (pa_cons (pv 3) (pa_cons (pv 4) (pa_cons (pv 5) (pa_cons (pv 6) pa_nil)))))))))), ?_⟩
    refine ⟨_, rfl, by show 5 ≤ sizeLine; decide, fun t5 ht5 => ?_⟩
    have s2 := same_upd (o := .tup [.int 0, .int c, .int 0, .non, .bl false]) ht5
    refine ⟨t5, _, rfl, SqT.of upd_same, rfl, _, _, rfl, _, _, rfl, _, _, rfl, _, _, rfl, _, _, rfl, rfl, ?_⟩
    refine ⟨_, rfl, p, rfl, ⟨_, hT2 _ s2⟩, for_tup (K := K) (a := p) (xs := ws) (fun i σ H' => ∃ (x7 x8 x9 x10 : Option V), σ = [some (.ref p), some (.int c), some (.int (smSteps c (ss.take i)).low), some (.int (smSteps c (ss.take i)).high), some (.int (smSteps c (ss.take i)).extra), some (goalV (smSteps c (ss.take i)).goal), some (.bl (smSteps c (ss.take i)).turned), x7, x8, x9, x10] ∧ Same (upd H t5 (.tup [.int 0, .int c, .int 0, .non, .bl false])) H')
      ⟨none, none, none, none, rfl, Same.refl _⟩ (fun i σ H' _ ⟨_, _, _, _, _, s3⟩ => hT2 _ (s2.trans s3)) ?_ ?_⟩
    · rintro i v σ H2 hi ⟨x7, x8, x9, x10, rfl, s3⟩
      obtain ⟨st, hst, t, rfl, ht0⟩ := e3.get hi
      have ht := s3 _ _ (s2 _ _ ht0)
      have em : smSteps c (ss.take (i + 1)) = smStep c (smSteps c (ss.take i)) st := by rw [take_more hst, smSteps_more]
      generalize smSteps c (ss.take i) = m at *
      obtain ⟨low, high, extra, goal, turned⟩ := m
      cases st with
      | turn =>
        refine ⟨_, rfl, .tuple [.str "turn"], .tuple [.str "turn"], .tup (SqT.of ht) (.cons (.str _) .nil), .tup (T.tT _) (.cons (.str _) .nil), by decide +kernel, by decide +kernel, _, rfl, ?_⟩
        refine ifT eqv_turn ⟨_, rfl, _, rfl, ?_⟩
        refine ⟨some (.ref t), x8, x9, x10, ?_, s3⟩
        rw [em]
        rfl
      | meet bb n =>
        refine ⟨_, rfl, .tuple [.str (roomS bb), .int n], .tuple [.str "turn"], .tup (SqT.of ht) (.cons (.str _) (.cons (.int _) .nil)), .tup (T.tT _) (.cons (.str _) .nil), shaped_meet bb n, by decide +kernel, _, rfl, ?_⟩
        refine ifF (eqv_meet bb n) ⟨_, rfl, _, rfl, _, rfl, _, bb, turned, c, n, rfl, ⟨t, rfl, ht⟩, fun q H3 s4 hq => ?_⟩
        refine ⟨q, _, rfl, SqT.of hq, rfl, _, _, rfl, _, _, rfl, rfl, ?_⟩
        cases goal with
        | none =>
          refine ⟨_, rfl, rfl, _, rfl, ?_⟩
          refine ifT (decide_eq_true rfl) ⟨_, rfl, _, rfl, _, rfl, _, rfl, low, high, _, _, rfl, fun q2 H4 s5 hq2 => ?_⟩
          refine ⟨q2, _, rfl, SqT.of hq2, rfl, _, _, rfl, _, _, rfl, _, _, rfl, _, _, rfl, rfl, ?_⟩
          refine ⟨some (.ref t), some (.int (allowF c turned bb n).1), some (.int (allowF c turned bb n).2), x10, ?_, (s3.trans s4).trans s5⟩
          rw [em]
          rfl
        | some z =>
          refine ⟨_, rfl, rfl, _, rfl, ?_⟩
          refine ifF (by simp [goalV]) ⟨_, rfl, _, rfl, _, rfl, z, _, _, rfl, ?_⟩
          refine ⟨_, rfl, _, rfl, _, rfl, _, _, rfl, rfl, _, rfl, _, _, rfl, rfl, _, rfl, ?_⟩
          refine ⟨some (.ref t), some (.int (allowF c turned bb n).1), some (.int (allowF c turned bb n).2), some (.int (nearF z (allowF c turned bb n).1 (allowF c turned bb n).2)), ?_, s3.trans s4⟩
          rw [em]
          rfl
    · rintro σ H2 ⟨x7, x8, x9, x10, rfl, s3⟩
      rw [e3.length, List.take_length]
      generalize smSteps c ss = m at *
      obtain ⟨low, high, extra, goal, turned⟩ := m
      have fin : ∀ g : Option Int, smEnd ⟨low, high, extra, goal, turned⟩ = ⟨low, high, extra, g, turned⟩ → ∀ q, H2 q = none → Q (.ref q) (upd H2 q (.tup [.int low, .int high, .int extra, goalV g, .bl turned])) := fun g hg q hq => by
        refine k q _ ((s2.trans s3).trans (same_upd hq)) ?_
        rw [hg]
        exact upd_same
      refine ⟨_, rfl, _, rfl, rfl, _, rfl, ?_⟩
      by_cases q1 : low = high
      · refine ifT (by rw [q1]; exact decide_eq_true rfl) ⟨_, rfl, rfl, _, rfl, ?_⟩
        cases goal with
        | none =>
          refine ifT (decide_eq_true rfl) ⟨_, rfl, _, rfl, _, rfl, _, rfl, _, rfl, _, rfl, by show 5 ≤ sizeLine; decide, fun q hq => ?_⟩
          exact fin (some low) (by unfold smEnd; rw [if_pos ⟨q1, rfl⟩]) q hq
        | some z =>
          refine ifF (by simp [goalV]) ⟨_, rfl, _, rfl, _, rfl, _, rfl, _, rfl, by show 5 ≤ sizeLine; decide, fun q hq => ?_⟩
          exact fin (some z) (by unfold smEnd; rw [if_neg (fun h => nomatch h.2)]) q hq
      · refine ifF (decide_eq_false fun h => q1 (by injection h)) ?_
        refine iteF ⟨_, rfl, _, rfl, _, rfl, _, rfl, _, rfl, by show 5 ≤ sizeLine; decide, fun q hq => ?_⟩
        exact fin goal (by unfold smEnd; rw [if_neg (fun h => q1 h.1)]) q hq
end
end Cc

namespace Cc
open PySem PySem.Spec PyProof.Rows L2
def spSummary (C : Addr) : Sp := fun vs H Q _ => ∃ (p : Addr) (ss : List Stp) (c : Int), vs = [.ref p, .int c] ∧ PlanAt C H p ss ∧ 0 ≤ c ∧ c ≤ 1000000000000000000 ∧ (∀ s ∈ ss, s.ok c) ∧ ss.length ≤ 60 ∧ ∀ q H', Same H H' → H' q = some (.tup (smV (smEnd (smSteps c ss)))) → Q (.ref q) H'
section
variable {P : Program} {w : World} {K : PySem.W.Frag} {mg : Str → Option Value} {base : Heap} {C TU pS gS : Addr} {mc : Value}
abbrev s_summary : Stmt := top 38
abbrev n_summary : List Str := ["plan", "chairs"]
theorem sc_summary : FnScope n_summary ["plan", "chairs"] (defScope s_summary) := ⟨rfl, rfl, rfl, by decide +kernel, rfl, by decide +kernel, by decide +kernel⟩
theorem ok_summary {f f_check_house f_effect_of : Addr} {fd fdS : FuncData} (F : Fun K "summary" "summary" s_summary f fd) (T : Txt K mg C TU pS gS mc) (G : Gs P w K mg base C gS fdS) (D_check_house : Dn P w K mg base 3 "check_house" f_check_house (spChkHouse C)) (D_effect_of : Dn P w K mg base 2 "effect_of" f_effect_of (spEffect K)) : FnOk P w K mg base CX0 4 f fd ["plan", "chairs"] (spSummary C) := by
  refine F.ok sc_summary (fun vs H Q E h => ?_) (fun cdv A outer s H vs Q E hr h => ?_)
  · obtain ⟨p, ss, c, rfl, _⟩ := h
    rfl
  · obtain ⟨p, ss, c, rfl, hp, h0, h1, ho, hn, k⟩ := h
    refine ⟨_, pss_cons (ps_expr (pe_callR D_check_house.ok (hr.mono (by decide)) rfl D_check_house.at_ D_check_house.kp pass0 (pa_cons (pv 0) (pa_cons (pv 1) pa_nil))))
      (pss_one (ps_ret (pe_callR D_effect_of.ok (hr.mono (by decide)) rfl D_effect_of.at_ D_effect_of.kp pass0 (pa_cons (pe_prop (pv 0) T.cl T.pr G.ok (hr.mono (by decide)) G.b .nil pass0 rfl) (pa_cons (pv 1) pa_nil))))), ?_⟩
    refine ⟨_, rfl, _, rfl, p, c, ss, rfl, hp, h0, h1, ho, hn, fun H1 s1 => ?_⟩
    obtain ⟨dx, tp, ws, e1, e2, e3⟩ := hp.same s1
    exact ⟨_, rfl, p, dx, _, rfl, e1, p, dx, _, _, rfl, e1, lk_self, _, rfl, tp, ws, ss, c, rfl, SqT.of e2, (fun H' s' => SqT.of (s' _ _ e2)), e3, fun q H2 s2 e => k q H2 (s1.trans s2) e⟩
end
end Cc

/-! A rule of our own: a set of ints by two clauses, {e for a in xs for b in ys if t}. -/
namespace Cc
open PySem PySem.Spec PyProof.Rows L2
/-- the comprehension: the first clause has no test -/
abbrev scE (el ta ia tb ib : Expr) (fb : List Expr) (sc : Scope) (ps : Pos) : Expr := .SetComp el [⟨ta, ia, [], 0⟩, ⟨tb, ib, fb, 0⟩] sc ps
section
variable {pr : Program} {ww : World} {A : Around} {R : Result → Shared → Prop} {st : Shared} {el ta ia tb ib : Expr} {fb : List Expr} {sc : Scope} {ps : Pos} {it ac : Value} {en : Env}
theorem noX {α : Type} {M : Model} {t : Sem α} {G : α → Shared → Prop} {E : Value → Shared → Prop} (h : wpAny M A t G (fun _ _ => False) st) : wpAny M A t G E st := wpAny_mono h (fun _ _ q => q) fun _ _ q => q.elim
theorem sc_outer (hf : ∀ x, foldedSetIterable ib en x = pure x) (J : Nat → Shared → Prop)
    (go : ∀ n z, J n z → wpAny (model pr ww) A (pyNext it) (fun r z1 => match r with
      | none => R (.ok .next) z1
      | some v => wpAny (model pr ww) A (letOwnedTupleGo ta it v) (fun _ z2 => wpAny (model pr ww) A (assign ta en v) (fun _ z3 => wpAny (model pr ww) A (eval ib en) (fun x z4 => wpAny (model pr ww) A (pyIter x) (fun i2 z5 =>
          codeAny (model pr ww) A (.compStart (scE el ta ia tb ib fb sc ps) 1 i2 ac en) (fun r z6 => match r with | .ok _ => ∃ m, m < n ∧ J m z6 | .error _ => False) z5)
          (fun _ _ => False) z4) (fun _ _ => False) z3) (fun _ _ => False) z2) (fun _ _ => False) z1) (fun _ _ => False) z) (n : Nat) (h : J n st) :
    codeAny (model pr ww) A (.compLoop (scE el ta ia tb ib fb sc ps) 0 it ac en) R st := by
  refine codeAny_loop rfl J (fun n z hz => ?_) n h
  show wpAny _ A ((compTurn (scE el ta ia tb ib fb sc ps) 0 it ac en).onRaise (fun x => do noteFrame x en; theTreesLotGoes x)) _ _ z
  refine wpAny_noted ?_
  have tree : compTurn (scE el ta ia tb ib fb sc ps) 0 it ac en = (do
      standAt ia.pos
      match ← pyNext it with
      | none => pure (.done .next)
      | some v =>
        letOwnedTupleGo ta it v
        assign ta en v
        let mut good := true
        for c in ([] : List Expr) do
          if good then good ← isTrue c en (eval c en)
        if good then
          let x ← eval ib en
          standAt ib.pos
          let x ← foldedSetIterable ib en x
          let _ ← runOwn (.compStart (scE el ta ia tb ib fb sc ps) 1 (← holding [x] (pyIter x)) ac en) en
        again (.compLoop (scE el ta ia tb ib fb sc ps) 0 it ac en)) := by rfl
  rw [tree]
  refine wpAny_bind (wpAny_standAt (wpAny_bind (wpAny_mono (go n z hz) (fun r z1 h1 => ?_) fun _ _ q => q.elim)))
  cases r with
  | none => exact wpAny_pure h1
  | some v =>
    refine wpAny_bind (wpAny_mono h1 (fun _ z2 h2 => wpAny_bind (wpAny_mono h2 (fun _ z3 h3 => ?_) fun _ _ q => q.elim)) fun _ _ q => q.elim)
    refine wpAny_bind (wpAny_of_eq (a := true) (by rfl) ?_)
    refine wpAny_bind (wpAny_mono h3 (fun x z4 h4 => ?_) fun _ _ q => q.elim)
    refine wpAny_bind (wpAny_standAt (wpAny_bind (wpAny_of_eq (hf x) (wpAny_bind (wpAny_holding (wpAny_mono h4 (fun i2 z5 h5 => ?_) fun _ _ q => q.elim))))))
    refine wpAny_bind (wpAny_runOwn (M := model pr ww) ?_)
    rw [Around.mark_none]
    refine codeAny_mono h5 fun r z6 h6 => ?_
    cases r with
    | error e => exact h6.elim
    | ok f => first
      | exact wpAny_pure ⟨rfl, h6⟩
      | exact wpAny_bind (wpAny_pure (wpAny_pure ⟨rfl, h6⟩))
theorem sc_inner (J : Nat → Shared → Prop)
    (go : ∀ n z, J n z → wpAny (model pr ww) A (pyNext it) (fun r z1 => match r with
      | none => R (.ok .next) z1
      | some v => wpAny (model pr ww) A (letOwnedTupleGo tb it v) (fun _ z2 => wpAny (model pr ww) A (assign tb en v) (fun _ z3 =>
          wpAny (model pr ww) A (forIn fb true fun c r => if r = true then do let ok ← isTrue c en (eval c en); pure (ForInStep.yield ok) else pure (ForInStep.yield r)) (fun good z4 =>
            if good = true then wpAny (model pr ww) A (eval el en) (fun x z5 => wpAny (model pr ww) A (call (.builtin "set.add") [ac, x]) (fun _ z6 => ∃ m, m < n ∧ J m z6) (fun _ _ => False) z5) (fun _ _ => False) z4
            else ∃ m, m < n ∧ J m z4) (fun _ _ => False) z3) (fun _ _ => False) z2) (fun _ _ => False) z1) (fun _ _ => False) z) (n : Nat) (h : J n st) :
    codeAny (model pr ww) A (.compLoop (scE el ta ia tb ib fb sc ps) 1 it ac en) R st := by
  refine codeAny_loop rfl J (fun n z hz => ?_) n h
  show wpAny _ A ((compTurn (scE el ta ia tb ib fb sc ps) 1 it ac en).onRaise (fun x => do noteFrame x en; theTreesLotGoes x)) _ _ z
  refine wpAny_noted ?_
  have tree : compTurn (scE el ta ia tb ib fb sc ps) 1 it ac en = (do
      standAt ib.pos
      match ← pyNext it with
      | none => pure (.done .next)
      | some v =>
        letOwnedTupleGo tb it v
        assign tb en v
        let mut good := true
        for c in fb do
          if good then good ← isTrue c en (eval c en)
        if good then
          (do let v ← eval el en; standAt el.pos; let _ ← call (.builtin "set.add") [ac, v])
        again (.compLoop (scE el ta ia tb ib fb sc ps) 1 it ac en)) := by rfl
  rw [tree]
  refine wpAny_bind (wpAny_standAt (wpAny_bind (wpAny_mono (go n z hz) (fun r z1 h1 => ?_) fun _ _ q => q.elim)))
  cases r with
  | none => exact wpAny_pure h1
  | some v =>
    refine wpAny_bind (wpAny_mono h1 (fun _ z2 h2 => wpAny_bind (wpAny_mono h2 (fun _ z3 h3 => ?_) fun _ _ q => q.elim)) fun _ _ q => q.elim)
    refine wpAny_bind (wpAny_mono h3 (fun good z4 h4 => ?_) fun _ _ q => q.elim)
    cases good with
    | false => exact wpAny_pure ⟨rfl, h4⟩
    | true => exact wpAny_bind (wpAny_bind (wpAny_mono h4 (fun x z5 h5 => wpAny_bind (wpAny_standAt (wpAny_bind (wpAny_mono h5 (fun _ z6 h6 => wpAny_pure (wpAny_pure ⟨rfl, h6⟩)) fun _ _ q => q.elim)))) fun _ _ q => q.elim))
/-- the second clause begins -/
theorem sc_begin (h0 : codeAny (model pr ww) A (.compLoop (scE el ta ia tb ib fb sc ps) 1 it ac en) R st)
    (h : wpAny (model pr ww) A (pyIter it) (fun i2 z => codeAny (model pr ww) A (.compLoop (scE el ta ia tb ib fb sc ps) 1 i2 ac en) R z) (fun _ _ => False) st) :
    codeAny (model pr ww) A (.compStart (scE el ta ia tb ib fb sc ps) 1 it ac en) R st := by
  refine codeAny_of_tree ?_
  show wpAny _ _ ((compStart (scE el ta ia tb ib fb sc ps) 1 it ac en).onRaise (fun x => do noteFrame x en; standAt theWindowsPlace)) _ _ st
  refine wpAny_notedAt ?_
  unfold compStart
  show wpAny _ _ (ask >>= _) _ _ st
  apply wpAny_bind; refine wpAny_askSetting (wpAny_ite ?_)
  split
  · first
      | exact wpAny_pure ⟨rfl, h0⟩
      | exact wpAny_bind (wpAny_pure (wpAny_pure ⟨rfl, h0⟩))
  · apply wpAny_bind; refine wpAny_rule ?_
    show wpAny _ _ (standAt ib.pos >>= _) _ _ st
    exact wpAny_bind (wpAny_standAt (wpAny_bind (wpAny_mono h (fun i2 z q => wpAny_pure ⟨rfl, q⟩) fun _ _ q => q.elim)))
end
/-- its reading: D the new set; behind the first clause's store the second source's own loop, from which Nx is reached -/
def tSc2 (w : World) (wi : TI) (g : TG) (wi1 : TI) (g1 : TG) (tt1 : TT) (te : TE) (vs vs1 : List Nat) : TE := fun sg G Q => wi sg G fun J G1 => ∀ D, G1 D = none →
  ∃ W : Nat → Nat → Hp → Prop, (∃ m, W 0 m (upd G1 D (SetO w D (fun _ => false) 0))) ∧ ∀ i m G, W i m G →
    (J.stop i G ∧ Q (.ref D) G) ∨ (J.go i G ∧ ∃ Nx : Hp → Prop, (∀ G', Nx G' → ∃ m', m' < m ∧ W (i + 1) m' G') ∧ ∀ x G', J.yld i G x G' →
      g x (wipe sg vs) G' fun sg2 G2 => wipe sg2 vs = wipe sg vs ∧ wi1 sg2 G2 fun J1 G3 => ∃ W1 : Nat → Nat → Hp → Prop, (∃ m, W1 0 m G3) ∧ ∀ j k G, W1 j k G →
        (J1.stop j G ∧ Nx G) ∨ (J1.go j G ∧ ∃ Ny : Hp → Prop, (∀ G', Ny G' → ∃ k', k' < k ∧ W1 (j + 1) k' G') ∧ ∀ x G', J1.yld j G x G' →
          g1 x (wipe sg2 vs1) G' fun sg3 G4 => wipe sg3 vs1 = wipe sg2 vs1 ∧ tt1 sg3 G4 fun b G5 =>
            if b = true then te sg3 G5 fun y G6 => ∃ (c : Int) (S : Int → Bool) (n : Nat), y = .int c ∧ G6 D = some (SetO w D S n) ∧ n + 1 < scanBound ∧ Ny (upd G6 D (SetO w D (fun j => S j || decide (j = c)) (if S c = true then n else n + 1))) else Ny G5))
section
variable {X : Cx}
theorem pe_sc2 {el ta ia tb ib : Expr} {fb : List Expr} {sc : Scope} {own : List (Str × Nat)} {vs1 : List Nat} {ps : Pos} {wi wi1 : TI} {g g1 : TG} {tt1 : TT} {te : TE} (hc : X.calm = true) (hN : X.N.Nodup) (hi : PI X ta ia wi) (ok : BlkOk X.N X.env.scope sc own) (hv : ∀ i ∈ vs1, i ∈ own.map (·.2))
    (hg : ∀ (s : Shared) (H : Hp) (C : Addr) (cl : List (Str × Addr)) (fp : List Addr), PG (X.blk s H sc (compEnvC sc cl C X.env) fp) ta g)
    (hi1 : ∀ (s : Shared) (H : Hp) (C : Addr) (cl : List (Str × Addr)) (fp : List Addr), PI (X.blk s H sc (compEnvC sc cl C X.env) fp) tb ib wi1)
    (hg1 : ∀ (s : Shared) (H : Hp) (C : Addr) (cl : List (Str × Addr)) (fp : List Addr), PG (X.blk s H sc (compEnvC sc cl C X.env) fp) tb g1)
    (ht1 : ∀ (s : Shared) (H : Hp) (C : Addr) (cl : List (Str × Addr)) (fp : List Addr), PTs (X.blk s H sc (compEnvC sc cl C X.env) fp) fb tt1)
    (he : ∀ (s : Shared) (H : Hp) (C : Addr) (cl : List (Str × Addr)) (fp : List Addr), PE (X.blk s H sc (compEnvC sc cl C X.env) fp) el te)
    (hs : ∀ x, foldedSetIterable ia X.env x = pure x := by intro _; rfl) (hs1 : ∀ env x, foldedSetIterable ib env x = pure x := by intro _ _; rfl) :
    PE X (scE el ta ia tb ib fb sc ps) (tSc2 X.w wi g wi1 g1 tt1 te (own.map (·.2)) vs1) := by
  refine ⟨fun pz z0 sg G0 Qq K0 h => ?_⟩
  rw [PpSet.eval_SetComp]
  have frees : ∀ y ∈ sc.names, y.2 = .free → ∃ c, X.env.cells.lookup y.1 = some c := fun y hy e => K0.ok.has _ ((ok.free y hy e).elim (fun a => .inl a) fun a => .inr a)
  refine wpAny_comprehension_free (use := none) rfl hs (closure_ok frees) ok.kind (fun y hy e => (ok.uniq y hy).trans (congrArg some e)) (thn (hi.run pz z0 sg G0 _ K0 h) fun _ z1 h1 => thn h1 fun iv z2 h2 => ?_)
  obtain ⟨it, fp, tn, Jt, G2, rfl, K2, T, t2, f2, q⟩ := h2
  refine PpSet.newSet_ok (newEnv_comp ?_)
  -- the new set, at D
  obtain ⟨D, hD⟩ : ∃ D, D = z2.heap.objs.size := ⟨_, rfl⟩
  rw [← hD]
  have freeD : G2 D = none := K2.hok.fresh (Nat.le_of_eq hD.symm)
  obtain ⟨W, ⟨m0, w0⟩, turn⟩ := q D freeD
  obtain ⟨z3, hz3⟩ : ∃ z3 : Shared, z3 = { z2 with heap := z2.heap.push { cls := .type "set", dict := none, data := .set #[] 0 (.fresh 0 0 (!X.w.params.followText "set-order")) } } := ⟨_, rfl⟩
  have p3 : z3.heap = z2.heap.push { cls := .type "set", dict := none, data := .set #[] 0 (.fresh 0 0 (!X.w.params.followText "set-order")) } := by rw [hz3]
  have keep3 : ∀ b o, z2.heap.get? b = some o → z3.heap.get? b = some o := fun b o e => by
    rw [p3]
    exact Heap.get?_push_of_some (h := z2.heap) _ e
  have K3 : Inv X pz sg (upd G2 D (SetO X.w D (fun _ => false) 0)) z3 := by
    rw [hz3]
    exact K2.laid (t' := z2.toks) (fun b o e => Heap.get?_push_of_some _ e) (Nat.le_of_eq hD.symm) (hD ▸ setO_new (setR_fresh X.w))
  have old : ∀ b ∈ fp, b < z2.heap.objs.size := fun b hb => (T.obj _ _ t2 b hb).elim fun _ e => Heap.lt_size e.1
  have f3 : ∀ b ∈ fp, FpOk X pz (upd G2 D (SetO X.w D (fun _ => false) 0)) b ∧ b < z3.heap.objs.size := fun b hb =>
    ⟨⟨by rw [upd_ne (by rw [hD]; exact Nat.ne_of_lt (old b hb))]; exact (f2 b hb).1, (f2 b hb).2⟩, by rw [p3, Heap.size_push]; exact Nat.lt_succ_of_lt (old b hb)⟩
  have K4 := block_start K3 ok hN f3
  have nf : ∀ b ∈ fp, upd G2 D (SetO X.w D (fun _ => false) 0) b = none := fun b hb => (f3 b hb).1.1
  -- the block's context
  have Bg := hg z3 (upd G2 D (SetO X.w D (fun _ => false) 0)) z3.heap.objs.size (cellsFrom (z3.heap.objs.size + 1) sc.names (cloFrom X.env.cells sc.names [])) fp
  have Bi := hi1 z3 (upd G2 D (SetO X.w D (fun _ => false) 0)) z3.heap.objs.size (cellsFrom (z3.heap.objs.size + 1) sc.names (cloFrom X.env.cells sc.names [])) fp
  have Bh := hg1 z3 (upd G2 D (SetO X.w D (fun _ => false) 0)) z3.heap.objs.size (cellsFrom (z3.heap.objs.size + 1) sc.names (cloFrom X.env.cells sc.names [])) fp
  have Bt := ht1 z3 (upd G2 D (SetO X.w D (fun _ => false) 0)) z3.heap.objs.size (cellsFrom (z3.heap.objs.size + 1) sc.names (cloFrom X.env.cells sc.names [])) fp
  have Be := he z3 (upd G2 D (SetO X.w D (fun _ => false) 0)) z3.heap.objs.size (cellsFrom (z3.heap.objs.size + 1) sc.names (cloFrom X.env.cells sc.names [])) fp
  have goal : codeAny (model X.prog X.w) X.A (.compStart (scE el ta ia tb ib fb sc ps) 0 (.ref it) (.ref D) (compEnvC sc (cellsFrom (z3.heap.objs.size + 1) sc.names (cloFrom X.env.cells sc.names [])) z3.heap.objs.size X.env))
      (compPost (model X.prog X.w) X.A X.xe none (EP X pz sg Qq) (.ref D) z3.heap.objs.size) { z3 with heap := pushCells (z3.heap.push { cls := .type "dict", data := .dict #[] }) sc.names } := by
    obtain ⟨ce, hce⟩ : ∃ ce, ce = compEnvC sc (cellsFrom (z3.heap.objs.size + 1) sc.names (cloFrom X.env.cells sc.names [])) z3.heap.objs.size X.env := ⟨_, rfl⟩
    rw [← hce] at K4 Bg Bi Bh Bt Be ⊢
    have lc : ce.locals = z3.heap.objs.size := by rw [hce]; rfl
    obtain ⟨G3, hG3⟩ : ∃ G3, G3 = upd G2 D (SetO X.w D (fun _ => false) 0) := ⟨_, rfl⟩
    rw [← hG3] at K3 K4 Bg Bi Bh Bt Be w0 f3
    have nf3 : ∀ b ∈ fp, G3 b = none := fun b hb => (f3 b hb).1.1
    obtain ⟨z4, hz4⟩ : ∃ z4 : Shared, z4 = { z3 with heap := pushCells (z3.heap.push { cls := .type "dict", data := .dict #[] }) sc.names } := ⟨_, rfl⟩
    rw [← hz4] at K4 ⊢
    have t4 : tn 0 z4.heap := T.keep _ _ _ t2 fun b _ o e => by
      rw [hz4]
      exact pushCells_keeps _ _ _ _ (Heap.get?_push_of_some _ (keep3 b o e))
    -- the iterator's objects stay untracked
    have fpk : ∀ {sg' : L2.St} {G' : Hp} {z' : Shared}, Inv (X.blk z3 G3 sc ce fp) [] sg' G' z' → (∀ b ∈ fp, G' b = none) → ∀ b ∈ fp, FpOk (X.blk z3 G3 sc ce fp) [] G' b := fun Kk hn b hb =>
      ⟨hn b hb, (Kk.ok.exf b hb).1, Kk.ok.exfs b hb, .inl hb, fun x c e => (Kk.ok.exf b hb).2 x c e, fun p hp => by simp at hp⟩
    have loop : codeAny (model X.prog X.w) X.A (.compLoop (scE el ta ia tb ib fb sc ps) 0 (.ref it) (.ref D) ce) (compPost (model X.prog X.w) X.A X.xe none (EP X pz sg Qq) (.ref D) z3.heap.objs.size) z4 := by
      refine sc_outer (hs1 ce) (fun n z => ∃ i G, Inv (X.blk z3 G3 sc ce fp) [] (wipe sg (own.map (·.2))) G z ∧ tn i z.heap ∧ (∀ b ∈ fp, G b = none) ∧ W i n G) ?_ m0 ⟨0, G3, K4, t4, nf3, w0⟩
      rintro n z5 ⟨i, G5, K5, t5, n5, w5⟩
      rcases turn i n G5 w5 with ⟨halt, qq⟩ | ⟨go, Nx, hNx, step⟩
      · refine thnF (T.done (X.blk z3 G3 sc ce fp) rfl rfl rfl hc i [] z5 _ G5 (fun _ _ => False) K5 (fpk K5 n5) t5 halt) fun r z6 ⟨hr, K6⟩ => ?_
        subst hr
        have K7 : Inv X pz sg G5 z6 := K3.call' (ch := fp) K6.os K6.base K6.hok K6.bare fun b hb => ⟨(f3 b hb).1.2.2.2.1, (f3 b hb).1.2.1, (f3 b hb).1.2.2.2.2.1, (f3 b hb).1.2.2.2.2.2⟩
        have nC : G5 z3.heap.objs.size = none := lc ▸ (show G5 ce.locals = none from K6.free)
        obtain ⟨m, hm, _⟩ := K6.loc
        have ff := K3.fpOk (Nat.le_refl _) nC
        refine ⟨m, lc ▸ (show z6.heap.Ns ce.locals m from hm), fun h'' sb => ?_⟩
        obtain ⟨a0, a1, _, a3, a4, a5⟩ := ff
        exact ⟨.ref D, G5, K7.turned (t' := z6.toks) (fun b o hb e => (sb.2 b hb).trans e) a0 a1 a3 a4 a5, rfl, qq⟩
      · refine thnF (T.item (X.blk z3 G3 sc ce fp) rfl rfl rfl hc i [] z5 _ G5 (fun _ _ => False) K5 (fpk K5 n5) t5 go) fun r z6 ⟨u, hr, h6⟩ => ?_
        subst hr
        refine thnF h6 fun _ z7 ⟨x, G7, K7, r7, y7, t7, n7⟩ => ?_
        refine thnF (Bg.run _ z7 _ G7 x u _ (K7.pinned (fpk K7 n7) (T.obj _ _ t7)) r7 (step x G7 y7)) fun _ z8 ⟨sg8, G8, K8, w8, q8⟩ => ?_
        have len8 : (wipe sg (own.map (·.2))).length = sg8.length := by rw [← w8, wipe_length]
        -- the turn's end
        have fin : ∀ {z' : Shared} {G' : Hp}, Inv (X.blk z3 G3 sc ce fp) ([] ++ pinsAt fp z7.heap) (wipe sg8 vs1) G' z' → Nx G' → ∃ m, m < n ∧ ∃ i G, Inv (X.blk z3 G3 sc ce fp) [] (wipe sg (own.map (·.2))) G z' ∧ tn i z'.heap ∧ (∀ b ∈ fp, G b = none) ∧ W i m G := fun {z' G'} Kk nx => by
          obtain ⟨m', lt, w'⟩ := hNx G' nx
          have pin : ∀ b ∈ fp, ∀ o, z7.heap.get? b = some o → z'.heap.get? b = some o ∧ G' b = none := fun b hb o e =>
            let y := Kk.pin (b, o) (List.mem_append_right _ (List.mem_append_right _ (mem_pinsAt hb e)))
            ⟨y.1, y.2.1⟩
          refine ⟨m', lt, i + 1, G', (Kk.unpinned (pins := [])).weak (by rw [len8, wipe_length]) (fun j v e => ?_), T.keep _ _ _ t7 fun b hb o e => (pin b hb o e).1, fun b hb => ?_, w'⟩
          · rw [← w8] at e
            obtain ⟨e1, e2⟩ := wipe_some (σ := sg8) e
            rw [wipe_out fun y => e2 (hv j y)]
            exact e1
          · obtain ⟨o, e, _⟩ := T.obj _ _ t7 b hb
            exact (pin b hb o e).2
        refine thnF (Bi.run _ z8 sg8 G8 _ K8 q8) fun _ z9 h9 => thnF h9 fun iw z10 h10 => ?_
        obtain ⟨it1, fp1, tn1, J1, G10, rfl, K10, T1, t10, f10, W1, ⟨m1, w1⟩, turn1⟩ := h10
        have fpk1 : ∀ {G' : Hp}, (∀ b ∈ fp1, G' b = none) → ∀ b ∈ fp1, FpOk (X.blk z3 G3 sc ce fp) ([] ++ pinsAt fp z7.heap) G' b := fun hn b hb => ⟨hn b hb, (f10 b hb).2⟩
        have loop1 : codeAny (model X.prog X.w) X.A (.compLoop (scE el ta ia tb ib fb sc ps) 1 (.ref it1) (.ref D) ce)
            (fun r z' => match r with | .ok _ => ∃ m, m < n ∧ ∃ i G, Inv (X.blk z3 G3 sc ce fp) [] (wipe sg (own.map (·.2))) G z' ∧ tn i z'.heap ∧ (∀ b ∈ fp, G b = none) ∧ W i m G | .error _ => False) z10 := by
          refine sc_inner (fun k z => ∃ j G, Inv (X.blk z3 G3 sc ce fp) ([] ++ pinsAt fp z7.heap) (wipe sg8 vs1) G z ∧ tn1 j z.heap ∧ (∀ b ∈ fp1, G b = none) ∧ W1 j k G) ?_ m1 ⟨0, G10, K10.weak (wipe_length _ _) (fun j v e => (wipe_some e).1), t10, fun b hb => (f10 b hb).1, w1⟩
          rintro k z11 ⟨j, G11, K11, t11, n11, w11⟩
          rcases turn1 j k G11 w11 with ⟨halt1, nx1⟩ | ⟨go1, Ny, hNy, step1⟩
          · refine thnF (T1.done (X.blk z3 G3 sc ce fp) rfl rfl rfl hc j _ z11 (wipe sg8 vs1) G11 (fun _ _ => False) K11 (fpk1 n11) t11 halt1) fun r z12 ⟨hr, K12⟩ => ?_
            subst hr
            exact fin K12 nx1
          · refine thnF (T1.item (X.blk z3 G3 sc ce fp) rfl rfl rfl hc j _ z11 (wipe sg8 vs1) G11 (fun _ _ => False) K11 (fpk1 n11) t11 go1) fun r z12 ⟨u1, hr, h12⟩ => ?_
            subst hr
            refine thnF h12 fun _ z13 ⟨x1, G13, K13, r13, y13, t13, n13⟩ => ?_
            refine thnF (Bh.run _ z13 (wipe sg8 vs1) G13 x1 u1 _ (K13.pinned (fpk1 n13) (T1.obj _ _ t13)) r13 (step1 x1 G13 y13)) fun _ z14 ⟨sg14, G14, K14, w14, q14⟩ => ?_
            refine thnF (Bt.run _ z14 sg14 G14 _ K14 q14) fun b z15 ⟨G15, K15, q15⟩ => ?_
            have fin1 : ∀ {z' : Shared} {G' : Hp}, Inv (X.blk z3 G3 sc ce fp) (([] ++ pinsAt fp z7.heap) ++ pinsAt fp1 z13.heap) sg14 G' z' → Ny G' → ∃ m, m < k ∧ ∃ j G, Inv (X.blk z3 G3 sc ce fp) ([] ++ pinsAt fp z7.heap) (wipe sg8 vs1) G z' ∧ tn1 j z'.heap ∧ (∀ b ∈ fp1, G b = none) ∧ W1 j m G := fun {z' G'} Kk nx => by
              obtain ⟨m', lt, w'⟩ := hNy G' nx
              have pin : ∀ b ∈ fp1, ∀ o, z13.heap.get? b = some o → z'.heap.get? b = some o ∧ G' b = none := fun b hb o e =>
                let y := Kk.pin (b, o) (List.mem_append_right _ (List.mem_append_right _ (mem_pinsAt hb e)))
                ⟨y.1, y.2.1⟩
              refine ⟨m', lt, j + 1, G', Kk.unpinned.weak (by rw [← w14, wipe_length]) (fun j v e => by rw [← w14] at e; exact (wipe_some e).1), T1.keep _ _ _ t13 fun b hb o e => (pin b hb o e).1, fun b hb => ?_, w'⟩
              obtain ⟨o, e, _⟩ := T1.obj _ _ t13 b hb
              exact (pin b hb o e).2
            cases b with
            | false =>
              simp only [Bool.false_eq_true, if_false] at q15 ⊢
              exact fin1 K15 q15
            | true =>
              simp only [if_true] at q15 ⊢
              refine thnF (Be.run _ z15 sg14 G15 _ K15 q15) fun v z16 ⟨y, G16, K16, r16, c, S, nn, ey, hS, hroom, nx⟩ => ?_
              subst ey
              refine wpAny_mono (((mt_sadd (X := X.blk z3 G3 sc ce fp)) _ z16 sg14 G16 (.ref D) [.int c] (.ref D) [v] (fun _ G' => Ny G') K16 rfl (.cons r16 .nil) ⟨D, c, S, nn, rfl, rfl, hS, hroom, nx⟩)) (fun _ z17 ⟨_, G17, K17, _, q17⟩ => fin1 K17 q17) fun _ _ q => q
        exact sc_begin loop1 (T1.self X.A 0 _ _ _ t10 loop1)
    exact PpSet.codeAny_compStart_set loop (T.self X.A 0 _ _ _ t4 loop)
  exact hz3 ▸ goal
end
end Cc

/-! The first start at which two plans differ is a telling one. -/
namespace Cc
open PySem PySem.Spec PyProof.Rows L2
/-- what a plan leaves and carries from x -/
abbrev outF (c : Int) (ss : List Stp) (x : Int) : Int × Int := stepsF c ss (x, 0)
theorem smEnd_ends (m : Sm) : (smEnd m).low = m.low ∧ (smEnd m).high = m.high := by
  unfold smEnd
  split <;> exact ⟨rfl, rfl⟩
theorem dist_even {lo hi x : Int} (h : lo ≤ hi) (h1 : x ≠ lo) (h2 : x ≠ lo + 1) (h3 : x ≠ hi) (h4 : x ≠ hi + 1) : distF lo hi x = 2 * distF lo hi (x - 1) - distF lo hi (x - 2) ∧ clampF lo hi x = 2 * clampF lo hi (x - 1) - clampF lo hi (x - 2) := by
  unfold distF clampF
  constructor <;> omega
/-- off the ends both numbers go on evenly -/
theorem out_even {c x : Int} {ss : List Stp} (hs : ∀ s ∈ ss, s.ok c) (x2 : 2 ≤ x) (x1 : x ≤ c) (h1 : x ≠ (smSteps c ss).low) (h2 : x ≠ (smSteps c ss).low + 1) (h3 : x ≠ (smSteps c ss).high) (h4 : x ≠ (smSteps c ss).high + 1) :
    (outF c ss x).1 = 2 * (outF c ss (x - 1)).1 - (outF c ss (x - 2)).1 ∧ (outF c ss x).2 = 2 * (outF c ss (x - 1)).2 - (outF c ss (x - 2)).2 := by
  obtain ⟨ok, a1, a2⟩ := smSteps_says (c := c) (x := x) (by omega) x1 ss hs
  obtain ⟨_, b1, b2⟩ := smSteps_says (c := c) (x := x - 1) (by omega) (by omega) ss hs
  obtain ⟨_, d1, d2⟩ := smSteps_says (c := c) (x := x - 2) (by omega) (by omega) ss hs
  obtain ⟨e1, e2⟩ := dist_even ok.lh h1 h2 h3 h4
  show (stepsF c ss (x, 0)).1 = 2 * (stepsF c ss (x - 1, 0)).1 - (stepsF c ss (x - 2, 0)).1 ∧ (stepsF c ss (x, 0)).2 = 2 * (stepsF c ss (x - 1, 0)).2 - (stepsF c ss (x - 2, 0)).2
  generalize (stepsF c ss (x, 0)) = px at *
  generalize (stepsF c ss (x - 1, 0)) = py at *
  generalize (stepsF c ss (x - 2, 0)) = pz at *
  obtain ⟨px1, px2⟩ := px
  obtain ⟨py1, py2⟩ := py
  obtain ⟨pz1, pz2⟩ := pz
  simp only at a1 a2 b1 b2 d1 d2
  generalize smSteps c ss = m at *
  obtain ⟨low, high, extra, goal, turned⟩ := m
  simp only at a1 a2 b1 b2 d1 d2 e1 e2
  refine ⟨?_, by show px2 = 2 * py2 - pz2; omega⟩
  show px1 = 2 * py1 - pz1
  cases goal <;> cases turned <;> simp [placeF, sideF] at a2 b2 d2 <;> omega
/-- the numbers that `telling` lists: 0 and both plans' ends, each with the next -/
def boundsF (c : Int) (a b : List Stp) : List Int := [0, (smSteps c a).low, (smSteps c a).high, (smSteps c b).low, (smSteps c b).high]
def TellF (c : Int) (a b : List Stp) (x : Int) : Prop := x ≤ c ∧ ∃ z ∈ boundsF c a b, x = z ∨ x = z + 1
theorem tell_first {c x : Int} {a b : List Stp} (ha : ∀ s ∈ a, s.ok c) (hb : ∀ s ∈ b, s.ok c) (x0 : 0 ≤ x) (x1 : x ≤ c) (hd : outF c a x ≠ outF c b x) (hs : ∀ y, 0 ≤ y → y < x → outF c a y = outF c b y) : TellF c a b x := by
  by_cases q : TellF c a b x
  · exact q
  · exfalso
    have f : ∀ z ∈ boundsF c a b, x ≠ z ∧ x ≠ z + 1 := fun z hz => ⟨fun e => q ⟨x1, z, hz, .inl e⟩, fun e => q ⟨x1, z, hz, .inr e⟩⟩
    simp only [boundsF, List.mem_cons, List.not_mem_nil, or_false, forall_eq_or_imp, forall_eq] at f
    obtain ⟨f0, f1, f2, f3, f4⟩ := f
    obtain ⟨p1, p2⟩ := out_even ha (show 2 ≤ x by omega) x1 f1.1 f1.2 f2.1 f2.2
    obtain ⟨q1, q2⟩ := out_even hb (show 2 ≤ x by omega) x1 f3.1 f3.2 f4.1 f4.2
    have g1 := hs (x - 1) (by omega) (by omega)
    have g2 := hs (x - 2) (by omega) (by omega)
    rw [g1, g2] at p1 p2
    exact hd (Prod.ext (p1.trans q1.symm) (p2.trans q2.symm))
/-- what first_difference answers -/
def FirstF (c : Int) (a b : List Stp) : Option Int → Prop
  | none => ∀ x, 0 ≤ x → x ≤ c → outF c a x = outF c b x
  | some x => 0 ≤ x ∧ x ≤ c ∧ outF c a x ≠ outF c b x ∧ ∀ y, 0 ≤ y → y < x → outF c a y = outF c b y
theorem below {c : Int} {a b : List Stp} (ha : ∀ s ∈ a, s.ok c) (hb : ∀ s ∈ b, s.ok c) {n : Int} (hn : n ≤ c + 1) (ht : ∀ y, 0 ≤ y → y < n → TellF c a b y → outF c a y = outF c b y) : ∀ (k : Nat) (y : Int), y = (k : Int) → y < n → outF c a y = outF c b y := by
  intro k
  induction k using Nat.strongRecOn with
  | _ k ih =>
    intro y hy hlt
    by_cases q : outF c a y = outF c b y
    · exact q
    · exact ht y (by omega) hlt (tell_first ha hb (by omega) (by omega) q fun z z0 z1 => ih z.toNat (by omega) z (by omega) (by omega))
theorem first_some {c : Int} {a b : List Stp} (ha : ∀ s ∈ a, s.ok c) (hb : ∀ s ∈ b, s.ok c) {x : Int} (x0 : 0 ≤ x) (x1 : x ≤ c) (hd : outF c a x ≠ outF c b x) (ht : ∀ y, 0 ≤ y → y < x → TellF c a b y → outF c a y = outF c b y) : FirstF c a b (some x) :=
  ⟨x0, x1, hd, fun y y0 y1 => below ha hb (n := x) (by omega) ht y.toNat y (by omega) y1⟩
theorem first_none {c : Int} {a b : List Stp} (ha : ∀ s ∈ a, s.ok c) (hb : ∀ s ∈ b, s.ok c) (ht : ∀ y, 0 ≤ y → y ≤ c → TellF c a b y → outF c a y = outF c b y) : FirstF c a b none :=
  fun x x0 x1 => below ha hb (n := c + 1) (by omega) (fun y y0 y1 => ht y y0 (by omega)) x.toNat x (by omega) (by omega)
theorem first_uniq {c : Int} {a b : List Stp} : ∀ {o o' : Option Int}, FirstF c a b o → FirstF c b a o' → o = o'
  | none, none, _, _ => rfl
  | none, some x, h, ⟨x0, x1, hd, _⟩ => absurd (h x x0 x1).symm hd
  | some x, none, ⟨x0, x1, hd, _⟩, h => absurd (h x x0 x1).symm hd
  | some x, some y, ⟨x0, x1, hd, hm⟩, ⟨y0, y1, he, hn⟩ => by
    have e : x = y := by
      rcases Int.lt_trichotomy x y with q | q | q
      · exact absurd (hn x x0 q).symm hd
      · exact q
      · exact absurd (hm y y0 q).symm he
    rw [e]
theorem eqv_ints (a b c d : Int) : PyData.eqv (.tuple [.int a, .int b]) (.tuple [.int c, .int d]) = decide ((a, b) = (c, d)) := by
  have q : ∀ i j : Int, (i == j) = decide (i = j) := fun i j => by by_cases h : i = j <;> simp [h]
  simp [PyData.eqv, PyData.eqvAll, q]
theorem shaped_ints (a b : Int) : SeqAt.shaped (.tuple [.int a, .int b]) = true := by
  simp [SeqAt.shaped, PyData.canLay0, PyData.canLayAll0, PyData.depth, PyData.depthAll]
/-- a part of a list of steps -/
theorem Steps.drop {H : Hp} : ∀ {vs : List V} {ss : List Stp} (n : Nat), Steps H vs ss → Steps H (vs.drop n) (ss.drop n)
  | _, _, 0, h => h
  | _, _, _ + 1, .nil => .nil
  | _, _, n + 1, .cons _ t => Steps.drop n t
theorem Steps.take {H : Hp} : ∀ {vs : List V} {ss : List Stp} (n : Nat), Steps H vs ss → Steps H (vs.take n) (ss.take n)
  | _, _, 0, _ => .nil
  | _, _, _ + 1, .nil => .nil
  | _, _, n + 1, .cons r t => .cons r (Steps.take n t)
theorem Steps.cut {H : Hp} {vs : List V} {ss : List Stp} (h : Steps H vs ss) (lo hi : Option Int) : ∃ us, Steps H (cutV vs lo hi) us ∧ us.length ≤ ss.length ∧ ∀ u ∈ us, u ∈ ss := by
  refine ⟨_, (h.drop _).take _, ?_, fun u hu => List.mem_of_mem_drop (List.mem_of_mem_take hu)⟩
  simp only [List.length_take, List.length_drop]
  omega
/-- a walk with a body of any form -/
theorem walk_any {J : It} {n : Nat} {G0 : Hp} {Nx : Hp → Prop} {Bd : V → Hp → (Hp → Prop) → Prop} (Pv : Nat → Hp → Prop) (h0 : Pv 0 G0) (hgo : ∀ i H, i < n → Pv i H → J.go i H) (hst : ∀ H, Pv n H → J.stop n H)
    (hs : ∀ i x H H', i < n → Pv i H → J.yld i H x H' → Bd x H' (Pv (i + 1))) (hd : ∀ H, Pv n H → Nx H) :
    ∃ W : Nat → Nat → Hp → Prop, (∃ m, W 0 m G0) ∧ ∀ j k G, W j k G → (J.stop j G ∧ Nx G) ∨ (J.go j G ∧ ∃ Ny : Hp → Prop, (∀ G', Ny G' → ∃ k', k' < k ∧ W (j + 1) k' G') ∧ ∀ x G', J.yld j G x G' → Bd x G' Ny) := by
  refine ⟨fun i m G => m = n - i ∧ i ≤ n ∧ Pv i G, ⟨n, (Nat.sub_zero n).symm, Nat.zero_le _, h0⟩, ?_⟩
  rintro i m H ⟨rfl, hi, p⟩
  by_cases hlt : i < n
  · exact .inr ⟨hgo i H hlt p, Pv (i + 1), fun H' p' => ⟨n - (i + 1), by omega, rfl, hlt, p'⟩, fun x H' y => hs i x H H' hlt p y⟩
  · have e : i = n := by omega
    subst e
    exact .inl ⟨hst H p, hd H p⟩
theorem walk_tup {K : PySem.W.Frag} {a : Addr} {xs : List V} {G0 : Hp} {Nx : Hp → Prop} {Bd : V → Hp → (Hp → Prop) → Prop} (Pv : Nat → Hp → Prop) (h0 : Pv 0 G0) (hl : ∀ i H, Pv i H → SqT K H a xs)
    (hs : ∀ i x H, xs[i]? = some x → Pv i H → Bd x H (Pv (i + 1))) (hd : ∀ H, Pv xs.length H → Nx H) :
    ∃ W : Nat → Nat → Hp → Prop, (∃ m, W 0 m G0) ∧ ∀ j k G, W j k G → ((Itt K a).stop j G ∧ Nx G) ∨ ((Itt K a).go j G ∧ ∃ Ny : Hp → Prop, (∀ G', Ny G' → ∃ k', k' < k ∧ W (j + 1) k' G') ∧ ∀ x G', (Itt K a).yld j G x G' → Bd x G' Ny) :=
  walk_any (n := xs.length) Pv h0 (fun i H hi p => ⟨xs, xs[i], hl i H p, by simp [hi]⟩) (fun H p => ⟨xs, hl _ H p, Nat.le_refl _⟩) (fun i x H H' hi p y => by
    obtain ⟨e, y⟩ := y
    subst e
    exact hs i x _ (y xs (hl i _ p)) p) hd
theorem walk_list {K : PySem.W.Frag} {a : Addr} {xs : List V} {G0 : Hp} {Nx : Hp → Prop} {Bd : V → Hp → (Hp → Prop) → Prop} (Pv : Nat → Hp → Prop) (h0 : Pv 0 G0) (hl : ∀ i H, Pv i H → SqL K H a xs)
    (hs : ∀ i x H, xs[i]? = some x → Pv i H → Bd x H (Pv (i + 1))) (hd : ∀ H, Pv xs.length H → Nx H) :
    ∃ W : Nat → Nat → Hp → Prop, (∃ m, W 0 m G0) ∧ ∀ j k G, W j k G → ((Itl K a).stop j G ∧ Nx G) ∨ ((Itl K a).go j G ∧ ∃ Ny : Hp → Prop, (∀ G', Ny G' → ∃ k', k' < k ∧ W (j + 1) k' G') ∧ ∀ x G', (Itl K a).yld j G x G' → Bd x G' Ny) :=
  walk_any (n := xs.length) Pv h0 (fun i H hi p => ⟨xs, xs[i], hl i H p, by simp [hi]⟩) (fun H p => ⟨xs, hl _ H p, Nat.le_refl _⟩) (fun i x H H' hi p y => by
    obtain ⟨e, y⟩ := y
    subst e
    exact hs i x _ (y xs (hl i _ p)) p) hd
theorem mem_before {ns : List Int} (hp : ns.Pairwise (· < ·)) {i : Nat} {z y : Int} (hz : ns[i]? = some z) (hy : y ∈ ns) (hlt : y < z) : y ∈ ns.take i := by
  obtain ⟨j, hj, ej⟩ := List.mem_iff_getElem.mp hy
  obtain ⟨hi, ei⟩ := List.getElem?_eq_some_iff.mp hz
  by_cases q : j < i
  · rw [List.mem_take_iff_getElem]
    exact ⟨j, by omega, ej⟩
  · exfalso
    by_cases e : j = i
    · subst e
      omega
    · have := List.pairwise_iff_getElem.mp hp i j hi hj (by omega)
      omega
/-! ### lists of steps: cut, joined, twice -/
section
variable {K : PySem.W.Frag} {c : Int} {H : Hp} {l b : Addr} {ws zs : List V} {ss us : List Stp} {Q : VK}
theorem do_cut {lo hi : Option Int} (hl : H l = some (.lst ws)) (hs : Steps H ws ss) (ho : ∀ s ∈ ss, s.ok c)
    (k : ∀ p vs us H', H p = none → Same H H' → H' p = some (.lst vs) → Steps H' vs us → us.length ≤ ss.length → (∀ u ∈ us, u.ok c) → Q (.ref p) H') : rSlL K (.ref l) lo hi H Q :=
  ⟨l, ws, rfl, SqL.of hl, fun p hp => let ⟨us, h1, h2, h3⟩ := hs.cut lo hi; k p _ us _ hp (same_upd hp) upd_same (h1.same (same_upd hp)) h2 fun u hu => ho u (h3 u hu)⟩
theorem do_cat (ha : H l = some (.lst ws)) (hs : Steps H ws ss) (hb : H b = some (.lst zs)) (ht : Steps H zs us) (hn : ss.length + us.length ≤ 100)
    (k : ∀ p H', H p = none → Same H H' → H' p = some (.lst (ws ++ zs)) → Steps H' (ws ++ zs) (ss ++ us) → Q (.ref p) H') : rCat (.ref l) (.ref b) H Q :=
  ⟨l, b, ws, zs, rfl, rfl, ha, hb, by rw [hs.length, ht.length, sizeLine_eq]; omega, fun p hp => k p _ hp (same_upd hp) upd_same ((hs.append ht).same (same_upd hp))⟩
theorem do_twice (ha : H l = some (.lst ws)) (hs : Steps H ws ss) (hn : ss.length ≤ 50)
    (k : ∀ p H', Same H H' → H' p = some (.lst (ws ++ ws)) → Steps H' (ws ++ ws) (ss ++ ss) → Q (.ref p) H') : rRep (.ref l) (.int 2) H Q :=
  ⟨l, 2, ws, rfl, rfl, ha, by decide, by decide, by rw [hs.length, sizeLine_eq]; show ss.length * 2 ≤ _; omega, fun p hp => by
    have e : (List.replicate (2 : Int).toNat ws).flatten = ws ++ ws := by
      show ws ++ (ws ++ []) = ws ++ ws
      rw [List.append_nil]
    rw [e]
    exact k p _ (same_upd hp) upd_same ((hs.append hs).same (same_upd hp))⟩
end
theorem lay_ints : ∀ ns : List Int, PyData.canLayAll0 (ns.map PyData.int) = true ∧ PyData.depthAll (ns.map PyData.int) = 0
  | [] => by simp [PyData.canLayAll0, PyData.depthAll]
  | n :: ns => by
    obtain ⟨a, b⟩ := lay_ints ns
    simp [PyData.canLayAll0, PyData.depthAll, PyData.canLay0, PyData.depth, a, b]
theorem shaped_list (ns : List Int) : SeqAt.shaped (.list (ns.map PyData.int)) = true := by
  obtain ⟨a, b⟩ := lay_ints ns
  unfold SeqAt.shaped
  simp [PyData.canLay0, PyData.depth, a, b]
theorem eqv_nil (ns : List Int) : PyData.eqv (.list (ns.map PyData.int)) (.list []) = decide (ns = []) := by
  cases ns <;> simp [PyData.eqv, PyData.eqvAll]
theorem dp_ints {K : PySem.W.Frag} {H : Hp} : ∀ ns : List Int, DpAll K H (ns.map V.int) (ns.map PyData.int)
  | [] => .nil
  | n :: ns => .cons (.int n) (dp_ints ns)
/-- the first of the starts below n -/
def FirstB (c : Int) (a b : List Stp) (n : Nat) : Option Int → Prop
  | none => ∀ x, 0 ≤ x → x < (n : Int) → outF c a x = outF c b x
  | some x => 0 ≤ x ∧ x < (n : Int) ∧ outF c a x ≠ outF c b x ∧ ∀ y, 0 ≤ y → y < x → outF c a y = outF c b y
theorem firstB_no {c : Int} {a b : List Stp} {n : Nat} : ∀ {o : Option Int}, FirstB c a b n o → outF c a (n : Int) = outF c b (n : Int) → FirstB c a b (n + 1) o
  | none, h, e => fun x x0 x1 => by
    by_cases q : x = (n : Int)
    · rw [q]
      exact e
    · exact h x x0 (by omega)
  | some _, ⟨h1, h2, h3, h4⟩, _ => ⟨h1, by omega, h3, h4⟩
theorem firstB_yes {c : Int} {a b : List Stp} {n : Nat} : ∀ {ns : List Int}, FirstB c a b n ns.head? → outF c a (n : Int) ≠ outF c b (n : Int) → FirstB c a b (n + 1) (ns ++ [(n : Int)]).head?
  | [], h, e => ⟨by omega, by omega, e, fun y y0 y1 => h y y0 y1⟩
  | _ :: _, ⟨h1, h2, h3, h4⟩, _ => ⟨h1, by omega, h3, h4⟩
theorem firstB_end {c : Int} {a b : List Stp} (c0 : 0 ≤ c) : ∀ {o : Option Int}, FirstB c a b (c + 1).toNat o → FirstF c a b o
  | none, h => fun x x0 x1 => h x x0 (by omega)
  | some _, ⟨h1, h2, h3, h4⟩ => ⟨h1, by omega, h3, h4⟩
theorem first_swap {c : Int} {a b : List Stp} : ∀ {o : Option Int}, FirstF c a b o → FirstF c b a o
  | none, h => fun x x0 x1 => (h x x0 x1).symm
  | some _, ⟨h1, h2, h3, h4⟩ => ⟨h1, h2, fun e => h3 e.symm, fun y y0 y1 => (h4 y y0 y1).symm⟩
theorem first_same {c : Int} {a b : List Stp} {o o' : Option Int} (h : FirstF c a b o) (h' : FirstF c a b o') : o = o' := first_uniq h (first_swap h')
theorem scal_goal (o o' : Option Int) : scal (goalV o) (goalV o') = true := by
  cases o <;> cases o' <;> rfl
end Cc

namespace Cc
open PySem PySem.Spec PyProof.Rows L2
abbrev sTell : Stmt := top 44
abbrev sFirst : Stmt := top 43
def spTell (C : Addr) : Sp := fun vs H Q _ => ∃ (p q : Addr) (a b : List Stp) (c : Int), vs = [.ref p, .ref q, .int c] ∧ PlanAt C H p a ∧ PlanAt C H q b ∧ 0 ≤ c ∧ c ≤ 1000000000000000000 ∧ (∀ s ∈ a, s.ok c) ∧ (∀ s ∈ b, s.ok c) ∧ a.length ≤ 60 ∧ b.length ≤ 60 ∧
  ∀ (l : Addr) (ns : List Int) (H' : Hp), Same H H' → H' l = some (.lst (ns.map V.int)) → ns.Pairwise (· < ·) → (∀ k, k ∈ ns ↔ TellF c a b k) → Q (.ref l) H'
def spFirst (C : Addr) : Sp := fun vs H Q _ => ∃ (p q : Addr) (a b : List Stp) (c : Int), vs = [.ref p, .ref q, .int c] ∧ PlanAt C H p a ∧ PlanAt C H q b ∧ 0 ≤ c ∧ c ≤ 1000000000000000000 ∧ (∀ s ∈ a, s.ok c) ∧ (∀ s ∈ b, s.ok c) ∧ a.length ≤ 60 ∧ b.length ≤ 60 ∧
  ∀ o H', Same H H' → FirstF c a b o → Q (goalV o) H'
section
variable {P : Program} {w : World} {K : PySem.W.Frag} {mg : Str → Option Value} {base : Heap} {C TU pS gS : Addr} {mc : Value}
abbrev nTell : List Str := ["plan", "other", "chairs", "bounds", "each", "low", "high", "bound", "start"]
theorem scTell : FnScope nTell ["plan", "other", "chairs"] (defScope sTell) := ⟨rfl, rfl, rfl, by decide +kernel, rfl, by decide +kernel, by decide +kernel⟩
def tiPair (K : PySem.W.Frag) : TI := iTup K (tTup (tCons (tVar 7) (tCons (tOp (rI0 fun i j => .int (i + j)) (tVar 7) (tC (.int 1))) tNil)))
def ttFit : TT := tTest (tOp (rI0 fun i j => .bl (decide (i ≤ j))) (tVar 8) (tVar 2))
theorem ok_tell {f f1 : Addr} {fd : FuncData} (F : Fun K "telling_starts" "telling_starts" sTell f fd) (T : Txt K mg C TU pS gS mc) (DT : Dn P w K mg base 4 "summary" f1 (spSummary C)) : FnOk P w K mg base CX0 5 f fd ["plan", "other", "chairs"] (spTell C) := by
  refine F.ok scTell (fun vs H Q E h => ?_) (fun cdv A outer s H vs Q E hr h => ?_)
  · obtain ⟨p, q, a, b, c, rfl, _⟩ := h
    rfl
  · obtain ⟨p, q, a, b, c, rfl, hp, hq, c0, c1, oa, ob, na, nb, k⟩ := h
    refine ⟨_, pss_cons (ps_set (i := 3) scTell.nd rfl (.inl rfl) (pe_lst (pa_cons pe_int pa_nil)))
      (pss_cons (ps_for PassesOwn.never rfl (pi_tup (pe_tup (pa_cons (pv 0) (pa_cons (pv 1) pa_nil)))) (pg_name (i := 4) scTell.nd rfl (.inl rfl))
        (pss_cons (ps_asg (pe_slice sl_tupA (pe_callR DT.ok hr rfl DT.at_ DT.kp pass0 (pa_cons (pv 4) (pa_cons (pv 2) pa_nil))) po_none (po_some pe_int)) (pg_tup rfl (pgs_cons (pg_name (i := 5) scTell.nd rfl (.inl rfl)) (pgs_cons (pg_name (i := 6) scTell.nd rfl (.inl rfl)) pgs_nil))))
        (pss_one (ps_expr (pe_bm PySem.F.plainAttrs_list PySem.F.slot_list_extend PySem.F.type_list_extend mt_extend (pv 3) (pa_cons (pe_lst (pa_cons (pv 5) (pa_cons (pv 6) pa_nil))) pa_nil))))))
      (pss_one (ps_ret (pe_callB (cr_sortedSet rfl) (by rfl) T.b.sorted (by decide +kernel) (pa_cons
        (pe_sc2 (own := [("bound", 7), ("start", 8)]) (vs1 := [8]) (g := gName 7) (g1 := gName 8) (wi1 := tiPair K) (tt1 := ttFit) (te := tVar 8) rfl scTell.nd (pi_list (pv 3)) (blkOk_by (N := nTell) (sc := defScope sTell) (by decide +kernel)) (by decide)
          (fun _ _ _ _ _ => pg_name (i := 7) scTell.nd rfl (.inl rfl))
          (fun _ _ _ _ _ => by exact (pi_tup (pe_tup (pa_cons (pv 7) (pa_cons (pe_op op_add (pv 7) pe_int) pa_nil)))))
          (fun _ _ _ _ _ => pg_name (i := 8) scTell.nd rfl (.inl rfl))
          (fun _ _ _ _ _ => by exact (pts_one (pt_cmpR op_le (pv 8) (pv 2) (nomark _))))
          (fun _ _ _ _ _ => pv 8)) pa_nil))))), ?_⟩
    refine ⟨by show 1 ≤ sizeLine; decide, fun lb hlb => ?_⟩
    refine ⟨_, rfl, _, rfl, by show 2 ≤ sizeLine; decide, fun tt htt => ?_⟩
    have ntb : tt ≠ lb := fun e => by
      rw [e, upd_same] at htt
      cases htt
    have e0 : upd (upd H lb (.lst [.int 0])) tt (.tup [.ref p, .ref q]) lb = some (.lst [.int 0]) := (same_upd htt) _ _ upd_same
    have t0 : upd (upd H lb (.lst [.int 0])) tt (.tup [.ref p, .ref q]) tt = some (.tup [.ref p, .ref q]) := upd_same
    have s0 : Same H (upd (upd H lb (.lst [.int 0])) tt (.tup [.ref p, .ref q])) := (same_upd hlb).trans (same_upd htt)
    generalize upd (upd H lb (.lst [.int 0])) tt (.tup [.ref p, .ref q]) = H0 at *
    have sOf : ∀ H', But lb H0 H' → Same H H' := fun H' b x o e => b x o (ne_of_none e hlb) (s0 x o e)
    refine ⟨tt, rfl, ⟨_, SqT.of t0⟩, for_tup (K := K) (a := tt) (xs := [.ref p, .ref q]) (fun i σ H' => ∃ (x4 x5 x6 : Option V), σ = [some (.ref p), some (.ref q), some (.int c), some (.ref lb), x4, x5, x6, none, none] ∧ But lb H0 H' ∧ H' lb = some (.lst (((boundsF c a b).take (2 * i + 1)).map V.int)))
      ⟨none, none, none, rfl, But.refl _ _, e0⟩ (fun i σ H' _ ⟨_, _, _, _, s1, _⟩ => SqT.of (s1 _ _ ntb t0)) ?_ ?_⟩
    · rintro i v σ H1 hi ⟨x4, x5, x6, rfl, s1, e1⟩
      have hp1 := hp.same (sOf _ s1)
      have hq1 := hq.same (sOf _ s1)
      obtain ⟨r, ss, rfl, hr1, ho, hn, em⟩ : ∃ (r : Addr) (ss : List Stp), v = .ref r ∧ PlanAt C H1 r ss ∧ (∀ s ∈ ss, s.ok c) ∧ ss.length ≤ 60 ∧ (boundsF c a b).take (2 * (i + 1) + 1) = (boundsF c a b).take (2 * i + 1) ++ [(smSteps c ss).low, (smSteps c ss).high] := by
        match i, hi with
        | 0, hi => exact ⟨p, a, (Option.some.inj hi).symm, hp1, oa, na, rfl⟩
        | 1, hi => exact ⟨q, b, (Option.some.inj hi).symm, hq1, ob, nb, rfl⟩
        | i + 2, hi => simp at hi
      have hlen : (((boundsF c a b).take (2 * i + 1)).map V.int).length ≤ 5 := by
        rw [List.length_map, List.length_take]
        exact Nat.min_le_right _ _
      obtain ⟨en1, en2⟩ := smEnd_ends (smSteps c ss)
      refine ⟨_, rfl, _, rfl, r, ss, c, rfl, hr1, c0, c1, ho, hn, fun q2 H2 s2 hq2 => ⟨2, rfl, q2, _, rfl, SqT.of hq2, fun hw => absurd hw.2 (by show ¬ _; simp [smV, HT.sIx]), fun _ t ht => ?_⟩⟩
      have ecut : cutV (smV (smEnd (smSteps c ss))) none (some 2) = [.int (smSteps c ss).low, .int (smSteps c ss).high] := by
        rw [← en1, ← en2]
        rfl
      rw [ecut]
      refine ⟨t, _, rfl, SqT.of upd_same, rfl, _, _, rfl, _, _, rfl, rfl, ?_⟩
      have s3 : Same H1 (upd H2 t (.tup [.int (smSteps c ss).low, .int (smSteps c ss).high])) := s2.trans (same_upd ht)
      generalize upd H2 t (.tup [.int (smSteps c ss).low, .int (smSteps c ss).high]) = H3 at *
      have e3 := s3 _ _ e1
      refine ⟨_, rfl, .inl ⟨rfl, _, SqL.of e3⟩, _, rfl, _, rfl, by show 2 ≤ sizeLine; decide, fun z hz => ⟨lb, z, _, _, rfl, rfl, (same_upd hz) _ _ e3, upd_same, ?_, ?_⟩⟩
      · rw [sizeLine_eq]
        show _ + 2 ≤ _
        omega
      · have nz : lb ≠ z := (ne_of_none e3 hz)
        refine ⟨some (.ref r), some (.int (smSteps c ss).low), some (.int (smSteps c ss).high), rfl, (s1.trans (But.of (s3.trans (same_upd hz)))).trans but_upd, upd_lst ?_⟩
        rw [em, List.map_append]
        rfl
    · rintro σ H1 ⟨x4, x5, x6, rfl, s1, e1⟩
      have e1 : H1 lb = some (.lst ((boundsF c a b).map V.int)) := e1
      refine ⟨_, rfl, lb, rfl, ⟨_, SqL.of e1⟩, fun D hD => ?_⟩
      have nlD : lb ≠ D := ne_of_none e1 hD
      refine walk_list (K := K) (a := lb) (xs := (boundsF c a b).map V.int) (fun i G => But D H1 G ∧ ∃ S n, G D = some (SetO w D S n) ∧ n ≤ 2 * i ∧ ∀ k : Int, S k = true ↔ k ≤ c ∧ ∃ z ∈ (boundsF c a b).take i, k = z ∨ k = z + 1)
        ⟨but_upd, fun _ => false, 0, upd_same, Nat.le_refl _, fun k => by simp⟩ (fun i G ⟨b1, _⟩ => SqL.of (b1 _ _ nlD e1)) ?_ ?_
      · rintro i x G hx ⟨b1, S, n, eS, hn, hS⟩
        rw [List.getElem?_map] at hx
        obtain ⟨z, hz, rfl⟩ : ∃ z, (boundsF c a b)[i]? = some z ∧ x = V.int z := by
          cases e : (boundsF c a b)[i]? with
          | none =>
            rw [e] at hx
            cases hx
          | some z =>
            rw [e] at hx
            exact ⟨z, rfl, (Option.some.inj hx).symm⟩
        have i5 : i < 5 := (List.getElem?_eq_some_iff.mp hz).1
        refine ⟨rfl, _, rfl, _, rfl, _, _, rfl, rfl, by show 2 ≤ sizeLine; decide, fun t ht => ⟨t, rfl, ⟨_, SqT.of upd_same⟩, ?_⟩⟩
        have ntD : t ≠ D := (ne_of_none eS ht).symm
        refine walk_tup (K := K) (a := t) (xs := [.int z, .int (z + 1)]) (fun j G' => But D (upd G t (.tup [.int z, .int (z + 1)])) G' ∧ ∃ S n, G' D = some (SetO w D S n) ∧ n ≤ 2 * i + j ∧ ∀ k : Int, S k = true ↔ k ≤ c ∧ ((∃ z ∈ (boundsF c a b).take i, k = z ∨ k = z + 1) ∨ ∃ m : Nat, m < j ∧ k = z + (m : Int)))
          ⟨But.refl _ _, S, n, (same_upd ht) _ _ eS, by omega, fun k => by rw [hS]; simp⟩ (fun j G' ⟨b2, _⟩ => SqT.of (b2 _ _ ntD upd_same)) ?_ ?_
        · rintro j y G' hy ⟨b2, S', n', eS', hn', hS'⟩
          obtain ⟨j2, rfl⟩ : j < 2 ∧ y = V.int (z + (j : Int)) := by
            match j, hy with
            | 0, hy => exact ⟨by decide, by rw [← Option.some.inj hy]; simp⟩
            | 1, hy => exact ⟨by decide, (Option.some.inj hy).symm⟩
            | j + 2, hy => simp at hy
          refine ⟨rfl, _, rfl, _, rfl, _, _, rfl, rfl, _, rfl, ?_⟩
          by_cases hc : z + (j : Int) ≤ c
          · refine ifT (decide_eq_true hc) ⟨_, rfl, _, S', n', rfl, eS', ?_, ?_⟩
            · show n' + 1 < 4096
              omega
            · refine ⟨b2.trans but_upd, _, _, upd_same, ?_, fun k => ?_⟩
              · split <;> omega
              · rw [Bool.or_eq_true, hS', decide_eq_true_iff]
                constructor
                · rintro (⟨k1, (h | ⟨m, m1, m2⟩)⟩ | h)
                  · exact ⟨k1, .inl h⟩
                  · exact ⟨k1, .inr ⟨m, by omega, m2⟩⟩
                  · exact ⟨by omega, .inr ⟨j, by omega, h⟩⟩
                · rintro ⟨k1, (h | ⟨m, m1, m2⟩)⟩
                  · exact .inl ⟨k1, .inl h⟩
                  · by_cases e : m = j
                    · subst e
                      exact .inr m2
                    · exact .inl ⟨k1, .inr ⟨m, by omega, m2⟩⟩
          · refine ifF (decide_eq_false hc) ⟨b2, S', n', eS', by omega, fun k => ?_⟩
            rw [hS']
            constructor
            · rintro ⟨k1, (h | ⟨m, m1, m2⟩)⟩
              · exact ⟨k1, .inl h⟩
              · exact ⟨k1, .inr ⟨m, by omega, m2⟩⟩
            · rintro ⟨k1, (h | ⟨m, m1, m2⟩)⟩
              · exact ⟨k1, .inl h⟩
              · refine ⟨k1, .inr ⟨m, ?_, m2⟩⟩
                by_cases e : m = j
                · subst e
                  omega
                · omega
        · rintro G' ⟨b2, S', n', eS', hn', hS'⟩
          refine ⟨(b1.trans (But.of (same_upd ht))).trans b2, S', n', eS', hn', fun k => ?_⟩
          rw [hS', take_more hz]
          constructor
          · rintro ⟨k1, (⟨y, y1, y2⟩ | ⟨m, m1, m2⟩)⟩
            · exact ⟨k1, y, List.mem_append_left _ y1, y2⟩
            · exact ⟨k1, z, List.mem_append_right _ List.mem_cons_self, by have : m < 2 := m1; omega⟩
          · rintro ⟨k1, y, y1, y2⟩
            rcases List.mem_append.mp y1 with h | h
            · exact ⟨k1, .inl ⟨y, h, y2⟩⟩
            · rw [List.mem_singleton.mp h] at y2
              rcases y2 with h | h
              · exact ⟨k1, .inr ⟨0, by show 0 < 2; decide, by rw [h]; simp⟩⟩
              · exact ⟨k1, .inr ⟨1, by show 1 < 2; decide, h⟩⟩
      · rintro G ⟨b1, S, n, eS, hn, hS⟩
        refine ⟨D, S, n, rfl, eS, ?_, fun ns l hs hm hl hfree => ?_⟩
        · have : n ≤ 2 * 5 := hn
          omega
        · refine k l ns _ (fun x o e => ?_) upd_same hs fun y => ?_
          · have e' := sOf _ s1 x o e
            exact (same_upd hfree) _ _ (b1 _ _ (ne_of_none e' hD) e')
          · rw [hm, hS]
            exact Iff.rfl
/-- the steps of a plan, for reading -/
theorem scFirst : FnScope ["plan", "other", "chairs", "start"] ["plan", "other", "chairs"] (defScope sFirst) := ⟨rfl, rfl, rfl, by decide +kernel, rfl, by decide +kernel, by decide +kernel⟩
theorem ok_first {f f1 f2 f3 : Addr} {fd fdS : FuncData} (F : Fun K "first_difference" "first_difference" sFirst f fd) (T : Txt K mg C TU pS gS mc) (G : Gs P w K mg base C gS fdS) (DH : Dn P w K mg base 3 "check_house" f1 (spChkHouse C)) (DT : Dn P w K mg base 5 "telling_starts" f2 (spTell C)) (DA : Dn P w K mg base 2 "after_steps" f3 (spASteps K)) :
    FnOk P w K mg base CX0 6 f fd ["plan", "other", "chairs"] (spFirst C) := by
  refine F.ok scFirst (fun vs H Q E h => ?_) (fun cdv A outer s H vs Q E hr h => ?_)
  · obtain ⟨p, q, a, b, c, rfl, _⟩ := h
    rfl
  · obtain ⟨p, q, a, b, c, rfl, hp, hq, c0, c1, oa, ob, na, nb, k⟩ := h
    have r3 : Room 3 _ := hr.mono (by decide)
    have r2 : Room 2 _ := hr.mono (by decide)
    refine ⟨_, pss_cons (ps_expr (pe_callR DH.ok r3 rfl DH.at_ DH.kp pass0 (pa_cons (pv 0) (pa_cons (pv 2) pa_nil))))
      (pss_cons (ps_expr (pe_callR DH.ok r3 rfl DH.at_ DH.kp pass0 (pa_cons (pv 1) (pa_cons (pv 2) pa_nil))))
      (pss_cons (ps_for PassesOwn.never rfl (pi_list (pe_callR DT.ok hr rfl DT.at_ DT.kp pass0 (pa_cons (pv 0) (pa_cons (pv 1) (pa_cons (pv 2) pa_nil))))) (pg_name (i := 3) scFirst.nd rfl (.inl rfl))
        (pss_one (ps_if (pt_cmpR (op_neD hr.units) (pe_callR DA.ok r2 rfl DA.at_ DA.kp pass0 (pa_cons (pe_prop (pv 0) T.cl T.pr G.ok r2 G.b .nil pass0 rfl) (pa_cons (pv 2) (pa_cons (pv 3) pa_nil))))
            (pe_callR DA.ok r2 rfl DA.at_ DA.kp pass0 (pa_cons (pe_prop (pv 1) T.cl T.pr G.ok r2 G.b .nil pass0 rfl) (pa_cons (pv 2) (pa_cons (pv 3) pa_nil)))) (nomark _))
          (pss_one (ps_ret (pv 3))) pss_nil)))
      (pss_one (ps_ret pe_non)))), ?_⟩
    refine ⟨_, rfl, _, rfl, p, c, a, rfl, hp, c0, c1, oa, na, fun H1 s1 => ?_⟩
    refine ⟨_, rfl, _, rfl, q, c, b, rfl, hq.same s1, c0, c1, ob, nb, fun H2 s2 => ?_⟩
    have s02 := s1.trans s2
    refine ⟨_, rfl, _, rfl, _, rfl, p, q, a, b, c, rfl, hp.same s02, hq.same s02, c0, c1, oa, ob, na, nb, fun l ns H3 s3 hl hs hm => ?_⟩
    have s03 := s02.trans s3
    refine ⟨l, rfl, ⟨_, SqL.of hl⟩, for_list (K := K) (a := l) (xs := ns.map V.int) (fun i σ H' => ∃ (x : Option V), σ = [some (.ref p), some (.ref q), some (.int c), x] ∧ Same H3 H' ∧ ∀ y ∈ ns.take i, 0 ≤ y → outF c a y = outF c b y)
      ⟨none, rfl, Same.refl _, fun y hy => by simp at hy⟩ (fun i σ H' _ ⟨_, _, s4, _⟩ => SqL.of (s4 _ _ hl)) ?_ ?_⟩
    · rintro i v σ H4 hi ⟨x, rfl, s4, hx⟩
      rw [List.getElem?_map] at hi
      obtain ⟨z, hz, rfl⟩ : ∃ z, ns[i]? = some z ∧ v = V.int z := by
        cases e : ns[i]? with
        | none =>
          rw [e] at hi
          cases hi
        | some z =>
          rw [e] at hi
          exact ⟨z, rfl, (Option.some.inj hi).symm⟩
      have s04 := s03.trans s4
      obtain ⟨dx, tp, ws, e1, e2, e2', e3⟩ := (hp.same s04).tup (K := K)
      refine ⟨_, rfl, p, dx, _, rfl, e1, p, dx, _, _, rfl, e1, lk_self, _, rfl, _, rfl, tp, ws, a, c, z, rfl, e2, e2', e3, fun q1 H5 s5 h5 => ?_⟩
      obtain ⟨dy, tq, zs, g1, g2, g2', g3⟩ := ((hq.same s04).same s5).tup (K := K)
      refine ⟨_, rfl, q, dy, _, rfl, g1, q, dy, _, _, rfl, g1, lk_self, _, rfl, _, rfl, tq, zs, b, c, z, rfl, g2, g2', g3, fun q2 H6 s6 h6 => ?_⟩
      refine ⟨.tuple [.int (outF c a z).1, .int (outF c a z).2], .tuple [.int (outF c b z).1, .int (outF c b z).2], .tup (SqT.of (s6 _ _ h5)) (.cons (.int _) (.cons (.int _) .nil)), .tup (SqT.of h6) (.cons (.int _) (.cons (.int _) .nil)), shaped_ints _ _, shaped_ints _ _, _, rfl, ?_⟩
      rw [eqv_ints]
      by_cases hd : outF c a z = outF c b z
      · rw [decide_eq_true hd]
        refine iteF ⟨_, rfl, (s4.trans s5).trans s6, fun y hy y0 => ?_⟩
        rw [take_more hz] at hy
        rcases List.mem_append.mp hy with h | h
        · exact hx y h y0
        · rw [List.mem_singleton.mp h]
          exact hd
      · rw [decide_eq_false hd]
        have hT := (hm z).mp (List.mem_of_getElem? hz)
        have z0 : 0 ≤ z := by
          obtain ⟨_, y, hy, hzy⟩ := hT
          have la := (smSteps_says (Int.le_refl 0) c0 a oa).1
          have lb := (smSteps_says (Int.le_refl 0) c0 b ob).1
          have l1 := la.l0
          have l2 := la.lh
          have l3 := lb.l0
          have l4 := lb.lh
          simp only [boundsF, List.mem_cons, List.not_mem_nil, or_false] at hy
          omega
        refine iteT ⟨_, rfl, ?_⟩
        exact k (some z) _ (s04.trans (s5.trans s6)) (first_some oa ob z0 hT.1 hd fun y y0 y1 hy => hx y (mem_before hs hz ((hm y).mpr hy) y1) y0)
    · rintro σ H4 ⟨x, rfl, s4, hx⟩
      rw [List.length_map, List.take_length] at hx
      exact k none _ (s03.trans s4) (first_none oa ob fun y y0 y1 hy => hx y ((hm y).mpr hy) y0)
end
end Cc

/-! Steps of which some are the module's own turn. -/
namespace Cc
open PySem PySem.Spec PyProof.Rows L2
/-- a step, wherever its tuple stands -/
def StepV (K : PySem.W.Frag) (H : Hp) (v : V) (s : Stp) : Prop := ∃ t, v = .ref t ∧ ∀ H', (∀ t xs, H t = some (.tup xs) → H' t = some (.tup xs)) → SqT K H' t (stpV s)
def StepsV (K : PySem.W.Frag) (H : Hp) (vs : List V) (ss : List Stp) : Prop := Paired (StepV K H) vs ss
theorem StepV.of {K : PySem.W.Frag} {H : Hp} {v : V} {s : Stp} (h : StepAt H v s) : StepV K H v s :=
  let ⟨t, e, g⟩ := h
  ⟨t, e, fun H' k => SqT.of (k _ _ g)⟩
theorem StepV.mono {K : PySem.W.Frag} {H H1 : Hp} {v : V} {s : Stp} (h : StepV K H v s) (m : ∀ t xs, H t = some (.tup xs) → H1 t = some (.tup xs)) : StepV K H1 v s :=
  let ⟨t, e, g⟩ := h
  ⟨t, e, fun H' k => g H' fun t xs z => k t xs (m t xs z)⟩
theorem StepsV.of {K : PySem.W.Frag} {H : Hp} : ∀ {vs : List V} {ss : List Stp}, Steps H vs ss → StepsV K H vs ss
  | _, _, .nil => .nil
  | _, _, .cons a r => .cons (.of a) (StepsV.of r)
theorem StepsV.mono {K : PySem.W.Frag} {H H1 : Hp} : ∀ {vs : List V} {ss : List Stp}, StepsV K H vs ss → (∀ t xs, H t = some (.tup xs) → H1 t = some (.tup xs)) → StepsV K H1 vs ss
  | _, _, .nil, _ => .nil
  | _, _, .cons a r, m => .cons (a.mono m) (StepsV.mono r m)
theorem StepsV.append {K : PySem.W.Frag} {H : Hp} : ∀ {vs ws : List V} {ss us : List Stp}, StepsV K H vs ss → StepsV K H ws us → StepsV K H (vs ++ ws) (ss ++ us)
  | _, _, _, _, .nil, h => h
  | _, _, _, _, .cons a r, h => .cons a (StepsV.append r h)
theorem StepsV.length {K : PySem.W.Frag} {H : Hp} {vs : List V} {ss : List Stp} (h : StepsV K H vs ss) : vs.length = ss.length := Paired.length h
theorem StepsV.get {K : PySem.W.Frag} {H : Hp} : ∀ {vs : List V} {ss : List Stp} {i : Nat} {v : V}, StepsV K H vs ss → vs[i]? = some v → ∃ s, ss[i]? = some s ∧ StepV K H v s
  | _, _, 0, _, .cons a r, e => by
    cases e
    exact ⟨_, rfl, a⟩
  | _, _, i + 1, v, .cons a r, e => StepsV.get (i := i) r e
theorem StepsV.same {K : PySem.W.Frag} {H H1 : Hp} {vs : List V} {ss : List Stp} (h : StepsV K H vs ss) (s : Same H H1) : StepsV K H1 vs ss := h.mono fun t xs e => s _ _ e
theorem same_none {H H1 : Hp} {p : Addr} (s : Same H H1) (h : H1 p = none) : H p = none := by
  cases e : H p with
  | none => rfl
  | some o =>
    rw [s _ _ e] at h
    cases h
theorem sqT_ty {K : PySem.W.Frag} {H : Hp} {t : Addr} {xs : List V} (h : SqT K H t xs) : TyX K H (.ref t) (.type "tuple") := by
  rcases h with (h | ⟨o, h⟩) | ⟨o, its, n, h, c, _⟩
  · exact .base (.tup h)
  · exact .fTuple h
  · exact .kTuple h c
def spIsStepV (K : PySem.W.Frag) : Sp := fun vs H Q _ => ∃ (v : V) (s : Stp), vs = [v] ∧ StepV K H v s ∧ s.ok 1000000000000000000 ∧ ∀ H', Same H H' → Q (.bl true) H'
def spInitSV (K : PySem.W.Frag) (C : Addr) : Sp := fun vs H Q _ => ∃ (x tp dx : Addr) (ws : List V) (ss : List Stp), vs = [.ref x, .ref tp] ∧ H x = some (.ins C dx []) ∧ H tp = some (.tup ws) ∧ StepsV K H ws ss ∧ ss.length ≤ 60 ∧ (∀ s ∈ ss, s.ok 1000000000000000000) ∧
  ∀ H', But x H H' → H' x = some (.ins C dx [("step_tuple", .ref tp)]) → Q .non H'
def spInitV (K : PySem.W.Frag) (C : Addr) : Sp := fun vs H Q _ => ∃ (x dx : Addr) (ws : List V) (ss : List Stp), vs = .ref x :: ws ∧ H x = some (.ins C dx []) ∧ StepsV K H ws ss ∧ ss.length ≤ 60 ∧ (∀ s ∈ ss, s.ok 1000000000000000000) ∧
  ∀ H' tp, But x H H' → H' x = some (.ins C dx [("step_tuple", .ref tp)]) → H' tp = some (.tup ws) → Q .non H'
/-- a plan, some of whose turns may be the module's -/
def PlanV (K : PySem.W.Frag) (C : Addr) (H : Hp) (p : Addr) (ss : List Stp) : Prop := ∃ dx tp ws, H p = some (.ins C dx [("step_tuple", .ref tp)]) ∧ H tp = some (.tup ws) ∧ StepsV K H ws ss
theorem PlanV.same {K : PySem.W.Frag} {C : Addr} {H H1 : Hp} {p : Addr} {ss : List Stp} (h : PlanV K C H p ss) (s : Same H H1) : PlanV K C H1 p ss :=
  let ⟨dx, tp, ws, a, b, c⟩ := h
  ⟨dx, tp, ws, s _ _ a, s _ _ b, c.same s⟩
section
variable {P : Program} {w : World} {K : PySem.W.Frag} {mg : Str → Option Value} {base : Heap} {C TU pS gS : Addr} {mc : Value}
theorem turn_stepV (T : Txt K mg C TU pS gS mc) (H : Hp) : StepV K H (.ref TU) .turn := ⟨TU, rfl, fun H' _ => T.tT H'⟩
theorem ok_isstepV {f fN : Addr} {fd : FuncData} (F : Fun K "is_step" "is_step" sIsStep f fd) (T : Txt K mg C TU pS gS mc) (N : Dn P w K mg base 1 "is_number" fN spIsNum) : FnOk P w K mg base CX0 2 f fd ["step"] (spIsStepV K) := by
  refine F.ok scIsStep (fun vs H Q E h => ?_) (fun cdv A outer s H vs Q E hr h => ?_)
  · obtain ⟨v, s, rfl, _⟩ := h
    rfl
  · obtain ⟨v, st, rfl, ⟨t, rfl, ht'⟩, ok, k⟩ := h
    have ht := ht' H fun _ _ e => e
    obtain ⟨u, hu⟩ := T.cc
    refine ⟨_, pss_cons (ps_if (pt_not (pt_val (pe_callB call_isi (by rfl) T.b.isinstance (by decide +kernel) (pa_cons (pv 0) (pa_cons (pe_bltn (v := .ty "tuple") (by rfl) T.b.tuple (by decide +kernel) rfl) pa_nil))))) (pss_one (ps_ret pe_bl)) pss_nil)
      (pss_cons (ps_if (pt_cmpR op_eq (pe_callB call_len (by rfl) T.b.len PySem.boot_len (pa_cons (pv 0) pa_nil)) pe_int (nomark _))
        (pss_one (ps_ret (pe_and (pe_cmpR op_in_seq (pe_ix ix_tup (pv 0) pe_int (fun _ _ => rfl)) (pe_tup (pa_cons pe_str (pa_cons pe_str pa_nil))) (by rfl))
          (pe_one (pe_callR N.ok hr rfl N.at_ N.kp pass0 (pa_cons (pe_ix ix_tup (pv 0) pe_int (fun _ _ => rfl)) (pa_cons pe_int (pa_cons (ClX.pe_cval (pe_glob (v := .ref C) rfl T.gP rfl)) pa_nil)))))))) pss_nil)
      (pss_one (ps_ret (pe_cmpR (op_eqD hr.units) (pv 0) (pe_glob (v := .ref TU) rfl T.gT rfl) (nomark _))))), ?_⟩
    refine ⟨_, rfl, _, _, _, _, true, rfl, .ty "tuple", sqT_ty ht, kit_ty (by decide +kernel), true, rfl, ?_⟩
    refine iteF ?_
    refine ⟨_, rfl, _, _, rfl, .inr ⟨_, ht, rfl⟩, rfl, ?_⟩
    cases st with
    | turn =>
      refine ⟨_, rfl, iteF ?_⟩
      refine ⟨_, rfl, .tuple [.str "turn"], .tuple [.str "turn"], .tup ht (.cons (.str _) .nil), .tup (T.tT _) (.cons (.str _) .nil), by decide +kernel, by decide +kernel, ?_⟩
      have e : PyData.eqv (.tuple [.str "turn"]) (.tuple [.str "turn"]) = true := by decide +kernel
      rw [e]
      exact k H (Same.refl H)
    | meet bb n =>
      refine ⟨_, rfl, iteT ?_⟩
      refine ⟨_, rfl, t, _, _, _, rfl, rfl, ht, at_of (j := 0) rfl rfl, by show 2 ≤ sizeLine; decide, fun p hp => ?_⟩
      have s1 : Same H (upd H p (.tup [.str "red", .str "blue"])) := same_upd hp
      refine ⟨p, _, rfl, .inr (SqT.of upd_same), rfl, by decide, _, rfl, ?_⟩
      have e : inV (.str (roomS bb)) [.str "red", .str "blue"] = true := by cases bb <;> decide +kernel
      rw [e]
      refine iteT ⟨_, rfl, t, _, _, _, rfl, rfl, ht' _ fun _ _ z => s1 _ _ z, at_of (j := 1) rfl rfl, C, mc, _, u, rfl, T.rd, hu, n, 0, _, rfl, ?_⟩
      rw [decide_eq_true (show (0 : Int) ≤ n ∧ n ≤ 1000000000000000000 from ok)]
      exact k _ s1
theorem ok_initV {f fS : Addr} {fd : FuncData} (F : Fun K "__init__" "Plan.__init__" sInit f fd) (T : Txt K mg C TU pS gS mc) (N : Dn P w K mg base 2 "is_step" fS (spIsStepV K)) : FnR P w K mg base CX0 3 f (spInitV K C) := by
  obtain ⟨z1, z2, z3, z4, z5, z6, cdv, z7, z8, rfl, lk, hcd⟩ := F.ex
  refine (StX.fn_star (ps := ["self"]) (pv := "steps") (sp := spInitSV K C) (k := 2) lk hcd scInit StX.cxUp_none (StX.bind_star1 (B := fun us => bindArgs _ ⟨us, []⟩) (fun _ => rfl) (fun _ _ _ => rfl)) fun A outer s H vs Q E hr h => ?_).imp fun vs H Q E h => ?_
  · obtain ⟨x, tp, dx, ws, ss, rfl, e1, e2, e3, hl, hs, k⟩ := h
    obtain ⟨u, hu⟩ := T.cs
    suffices h : ∃ t, PSs (cxOf CX0 P w K mg base ["self", "steps", "index", "step"] "Plan.__init__" (defScope sInit) f cdv A outer s H E).nox (defBody sInit) t ∧ t { nx := fun _ H' => Q .non H', rt := Q } (start ["self", "steps", "index", "step"] [.ref x, .ref tp]) H by
      obtain ⟨t, h1, h2⟩ := h
      exact ⟨t, h1.nox, h2⟩
    refine ⟨_, pss_cons (ps_for PassesOwn.never rfl (pi_enumT (by rfl) T.b.enumerate (pa_cons (pv 1) pa_nil))
        (pg_tup rfl (pgs_cons (pg_name (i := 2) scInit.nd rfl (.inl rfl)) (pgs_cons (pg_name (i := 3) scInit.nd rfl (.inl rfl)) pgs_nil)))
        (pss_one (ps_if (PW.pt (pw_or (pt_cmpR op_eq (pv 2) (ClX.pe_cval (pe_glob (v := .ref C) rfl T.gP rfl)) (nomark _))
          (pw_or1 (pt_not (pt_val (pe_callR N.ok hr rfl N.at_ N.kp pass0 (pa_cons (pv 3) pa_nil))))))) (pss_one ps_never) pss_nil)))
      (pss_one (ps_fld (pv 0) (pv 1) rfl)), ?_⟩
    refine ⟨_, rfl, tp, ws, rfl, SqT.of e2, ?_⟩
    refine for_it (walk_enumT (xs := ws)) (fun i σ H' => ∃ a b, σ = [some (.ref x), some (.ref tp), a, b] ∧ Same H H') ⟨none, none, rfl, Same.refl H⟩ (fun i σ H' _ ⟨_, _, _, s1⟩ => SqT.of (s1 _ _ e2)) ?_ ?_
    · rintro i v σ H1 H2 hi ⟨a, b, rfl, s1⟩ ⟨q, y1, y2, rfl, n1, rfl, z1, z2⟩
      obtain ⟨st, hst, hv⟩ := e3.get z2
      have okst := hs st (List.mem_of_getElem? hst)
      have s2 : Same H (upd H1 q (.tup [y1, y2])) := s1.trans (same_upd n1)
      cases z1
      refine ⟨q, _, rfl, SqT.of upd_same, rfl, _, _, rfl, _, _, rfl, rfl, ?_⟩
      have hi' : i < 60 := by
        have := e3.length
        omega
      refine ⟨_, rfl, C, mc, _, u, rfl, T.rd, hu, rfl, _, rfl, ?_⟩
      rw [decide_eq_false (show ¬ V.int (i : Int) = V.int 60 from fun z => by injection z with z; omega)]
      refine iteF ?_
      refine ⟨_, rfl, _, st, rfl, hv.mono fun _ _ z => s2 _ _ z, okst, fun H3 s3 => ⟨_, rfl, ?_⟩⟩
      exact iteF ⟨_, _, rfl, s2.trans s3⟩
    · rintro σ H' ⟨a, b, rfl, s1⟩
      refine ⟨_, rfl, _, rfl, x, C, dx, _, rfl, s1 _ _ e1, T.cl, T.nS, (by show 0 < 1000; decide), ?_⟩
      exact k _ (fun b o n e => by rw [upd_ne n]; exact s1 _ _ e) upd_same
  · obtain ⟨x, dx, ws, ss, rfl, e1, e3, hl, hs, k⟩ := h
    refine ⟨[.ref x], ws, rfl, rfl, ?_, fun p hp => ?_⟩
    · rw [e3.length]
      exact Nat.le_trans hl (by decide)
    · have s1 : Same H (upd H p (.tup ws)) := same_upd hp
      refine ⟨x, p, dx, ws, ss, rfl, s1 _ _ e1, upd_same, e3.same s1, hl, hs, fun H' b1 b2 => ?_⟩
      exact k H' p (fun b o n e => b1 b o n (s1 _ _ e)) b2 (b1 _ _ (ne_of_none e1 hp).symm upd_same)
end
end Cc

/-! Simple plans: the numbers that the red room comes to, and the steps through them. -/
namespace Cc
open PySem PySem.Spec PyProof.Rows L2
/-- how far numbers are apart in all -/
def lenF : List Int → Int
  | a :: b :: r => ab (b - a) + lenF (b :: r)
  | _ => 0
def legF (ps : List Int) (i : Nat) : Int := ab (ps.getD i 0 - ps.getD (i - 1) 0)
theorem lenF_snoc : ∀ (ps : List Int) (a b : Int), lenF (ps ++ [a, b]) = lenF (ps ++ [a]) + ab (b - a)
  | [], a, b => by simp [lenF]
  | [x], a, b => by simp [lenF]
  | x :: y :: r, a, b => by
    have z := lenF_snoc (y :: r) a b
    show ab (y - x) + lenF (y :: r ++ [a, b]) = ab (y - x) + lenF (y :: r ++ [a]) + ab (b - a)
    omega
theorem lenF_take {ps : List Int} {i : Nat} {a b : Int} (ha : ps[i]? = some a) (hb : ps[i + 1]? = some b) : lenF (ps.take (i + 2)) = lenF (ps.take (i + 1)) + ab (b - a) := by
  have e1 := take_more ha
  have e2 := take_more hb
  rw [e2, e1, List.append_assoc]
  exact lenF_snoc _ a b
theorem ab_nonneg (x : Int) : 0 ≤ ab x := by
  unfold ab
  split <;> omega
theorem lenF_nonneg : ∀ ps : List Int, 0 ≤ lenF ps
  | [] => Int.le_refl 0
  | [_] => Int.le_refl 0
  | a :: b :: r => by
    have z := lenF_nonneg (b :: r)
    have y := ab_nonneg (b - a)
    show 0 ≤ ab (b - a) + lenF (b :: r)
    omega
/-- two numbers in turn -/
def swayF (a b : Int) (n : Nat) : List Int := (List.range n).map fun i => if i % 2 = 0 then a else b
def wayF (c s g : Int) (n : Nat) : List Int :=
  if lenF (s :: (swayF c 0 n ++ [g])) ≥ lenF (s :: (swayF 0 c n ++ [g])) then s :: (swayF c 0 n ++ [g]) else s :: (swayF 0 c n ++ [g])
theorem sway_len (a b : Int) (n : Nat) : (swayF a b n).length = n := by
  unfold swayF
  simp
theorem way_len (c s g : Int) (n : Nat) : (wayF c s g n).length = n + 2 := by
  unfold wayF
  split <;> simp [sway_len]
theorem way_zero (c s g : Int) : wayF c s g 0 = [s, g] := by
  unfold wayF
  split <;> rfl
theorem sway_in {c : Int} (c0 : 0 ≤ c) (n : Nat) : (∀ x ∈ swayF c 0 n, 0 ≤ x ∧ x ≤ c) ∧ ∀ x ∈ swayF 0 c n, 0 ≤ x ∧ x ≤ c := by
  constructor
  all_goals
    intro x hx
    obtain ⟨i, _, rfl⟩ := List.mem_map.mp hx
    split <;> omega
theorem way_in {c s g : Int} (c0 : 0 ≤ c) (s0 : 0 ≤ s) (s1 : s ≤ c) (g0 : 0 ≤ g) (g1 : g ≤ c) (n : Nat) : ∀ x ∈ wayF c s g n, 0 ≤ x ∧ x ≤ c := by
  intro x hx
  unfold wayF at hx
  have z := sway_in c0 n
  split at hx
  · rcases List.mem_cons.mp hx with rfl | h
    · exact ⟨s0, s1⟩
    · rcases (List.mem_append.mp h) with h | h
      · exact z.1 x h
      · rw [List.mem_singleton.mp h]
        exact ⟨g0, g1⟩
  · rcases List.mem_cons.mp hx with rfl | h
    · exact ⟨s0, s1⟩
    · rcases (List.mem_append.mp h) with h | h
      · exact z.2 x h
      · rw [List.mem_singleton.mp h]
        exact ⟨g0, g1⟩
/-- the fewest turns between -/
def fewB (c s g e : Int) : Nat → Nat → Nat
  | 0, b => b
  | f + 1, b => if lenF (wayF c s g b) < e then fewB c s g e f (b + 1) else b
theorem fewB_spec {c s g e : Int} : ∀ (f b m : Nat), b ≤ m → m ≤ b + f → e ≤ lenF (wayF c s g m) →
    (e ≤ lenF (wayF c s g (fewB c s g e f b))) ∧ b ≤ fewB c s g e f b ∧ fewB c s g e f b ≤ m ∧ ∀ k, b ≤ k → k < fewB c s g e f b → lenF (wayF c s g k) < e
  | 0, b, m, h1, h2, h3 => by
    have : m = b := by omega
    subst this
    exact ⟨h3, Nat.le_refl _, Nat.le_refl _, fun k k1 k2 => absurd k2 (Nat.not_lt.mpr k1)⟩
  | f + 1, b, m, h1, h2, h3 => by
    unfold fewB
    by_cases q : lenF (wayF c s g b) < e
    · rw [if_pos q]
      have nb : b ≠ m := fun z => by
        subst z
        omega
      obtain ⟨i1, i2, i3, i4⟩ := fewB_spec f (b + 1) m (by omega) (by omega) h3
      refine ⟨i1, by omega, i3, fun k k1 k2 => ?_⟩
      rcases Nat.lt_or_ge b k with z | z
      · exact i4 k z k2
      · have : k = b := by omega
        subst this
        exact q
    · rw [if_neg q]
      exact ⟨by omega, Nat.le_refl _, h1, fun k k1 k2 => absurd k2 (Nat.not_lt.mpr k1)⟩
theorem fewB_is {c s g e : Int} {f b : Nat} (h1 : e ≤ lenF (wayF c s g b)) (h2 : ∀ k, k < b → lenF (wayF c s g k) < e) (h3 : b ≤ f) : fewB c s g e f 0 = b := by
  obtain ⟨i1, i2, i3, i4⟩ := fewB_spec f 0 b (Nat.zero_le _) (by omega) h1
  rcases Nat.lt_or_ge (fewB c s g e f 0) b with z | z
  · have := h2 _ z
    omega
  · omega
/-- the numbers, the first turn as near as it must be -/
def nearerF (e : Int) (ps : List Int) : List Int := match ps with
  | a :: b :: r => a :: (if b < a then b + (lenF (a :: b :: r) - e) / 2 else b + -((lenF (a :: b :: r) - e) / 2)) :: r
  | r => r
def ptsF (c s g e : Int) : List Int := nearerF e (wayF c s g (fewB c s g e 60 0))
/-- the steps through numbers -/
def thruF (c : Int) : Bool → List Int → List Stp
  | _, [] => []
  | r, p :: ps => (if r = true then .meet true p else .meet false (c - p)) :: thruF c (!r) ps
theorem thru_snoc (c : Int) : ∀ (r : Bool) (ps : List Int) (p : Int), thruF c r (ps ++ [p]) = thruF c r ps ++ [if (if ps.length % 2 = 0 then r else !r) = true then .meet true p else .meet false (c - p)]
  | r, [], p => by simp [thruF]
  | r, q :: ps, p => by
    show (if r = true then Stp.meet true q else Stp.meet false (c - q)) :: thruF c (!r) (ps ++ [p]) = (if r = true then Stp.meet true q else Stp.meet false (c - q)) :: (thruF c (!r) ps ++ _)
    rw [thru_snoc c (!r) ps p]
    congr 3
    have : (q :: ps).length % 2 = 0 ↔ ¬ ps.length % 2 = 0 := by
      rw [List.length_cons]
      omega
    by_cases h : ps.length % 2 = 0
    · rw [if_pos h, if_neg fun z => this.mp z h]
    · rw [if_neg h, if_pos (this.mpr h), Bool.not_not]
theorem thru_len (c : Int) : ∀ (r : Bool) (ps : List Int), (thruF c r ps).length = ps.length
  | r, [] => rfl
  | r, p :: ps => by
    show (thruF c (!r) ps).length + 1 = ps.length + 1
    rw [thru_len c (!r) ps]
theorem thru_ok {c : Int} : ∀ {r : Bool} {ps : List Int}, (∀ p ∈ ps, 0 ≤ p ∧ p ≤ c) → ∀ s ∈ thruF c r ps, s.ok c
  | r, [], _, s, hs => nomatch hs
  | r, p :: ps, h, s, hs => by
    rcases List.mem_cons.mp hs with rfl | z
    · obtain ⟨p0, p1⟩ := h p List.mem_cons_self
      cases r
      · exact ⟨by omega, by omega⟩
      · exact ⟨p0, p1⟩
    · exact thru_ok (fun q hq => h q (List.mem_cons_of_mem _ hq)) s z
def intoF (c low high : Int) : List Stp := (if low > 0 then [Stp.meet true low] else []) ++ (if high < c then [Stp.meet false (c - high)] else [])
/-- the simple plan's steps -/
def simpleM (c : Int) (m : Sm) : List Stp :=
  (if m.extra = 0 then intoF c m.low m.high else
    let ps := ptsF c m.low (m.goal.getD 0) m.extra
    thruF c (decide (ps.getD 0 0 > ps.getD 1 0)) ps) ++ (if m.turned = true then [.turn] else [])
def simpleF (c : Int) (ss : List Stp) : List Stp := simpleM c (smEnd (smSteps c ss))
/-- what is wanted of a summary -/
structure SmFit (c : Int) (m : Sm) : Prop where
  c0 : 0 ≤ c
  l0 : 0 ≤ m.low
  lh : m.low ≤ m.high
  h1 : m.high ≤ c
  e0 : 0 ≤ m.extra
  g : m.extra ≠ 0 → ∃ z, m.goal = some z ∧ 0 ≤ z ∧ z ≤ c ∧ ab (z - m.low) ≤ m.extra ∧ ∃ b, b ≤ 50 ∧ m.extra ≤ lenF (wayF c m.low z b)
theorem near_len {e : Int} {ps : List Int} : (nearerF e ps).length = ps.length := by
  unfold nearerF
  split <;> simp
theorem SmFit.few {c : Int} {m : Sm} (h : SmFit c m) (ne : m.extra ≠ 0) : ∃ z, m.goal = some z ∧ 0 ≤ z ∧ z ≤ c ∧ fewB c m.low z m.extra 60 0 ≤ 50 ∧ m.extra ≤ lenF (wayF c m.low z (fewB c m.low z m.extra 60 0)) := by
  obtain ⟨z, e, z0, z1, _, b, b1, h2⟩ := h.g ne
  obtain ⟨i1, i2, i3, i4⟩ := fewB_spec 60 0 b (Nat.zero_le _) (by omega) h2
  exact ⟨z, e, z0, z1, by omega, i1⟩
theorem sway_cons (a b : Int) (n : Nat) : swayF a b (n + 1) = a :: swayF b a n := by
  unfold swayF
  rw [List.range_succ_eq_map, List.map_cons, (List.map_map)]
  congr 1
  refine List.map_congr_left (fun i _ => ?_)
  show (if (i + 1) % 2 = 0 then a else b) = if i % 2 = 0 then b else a
  by_cases h : i % 2 = 0
  · rw [if_pos h, if_neg (by omega)]
  · rw [if_neg h, if_pos (by omega)]
theorem sway_snoc (a b : Int) (n : Nat) : swayF a b (n + 1) = swayF a b n ++ [if n % 2 = 0 then a else b] := by
  unfold swayF
  rw [List.range_succ, List.map_append]
  rfl
theorem lenF_last : ∀ (xs : List Int) (v u : Int), lenF (xs ++ [v, u]) = lenF (xs ++ [v]) + ab (u - v) := lenF_snoc
/-- one more number between costs at most twice its distance -/
theorem lenF_more (xs : List Int) (v u g c : Int) (h : ab (u - v) ≤ c) : lenF (xs ++ [v] ++ [u, g]) ≤ lenF (xs ++ [v] ++ [g]) + 2 * c := by
  have e1 := lenF_snoc (xs ++ [v]) u g
  have e2 : lenF (xs ++ [v] ++ [u]) = lenF (xs ++ [v]) + ab (u - v) := by
    rw [List.append_assoc]
    exact lenF_snoc xs v u
  have e3 : lenF (xs ++ [v] ++ [g]) = lenF (xs ++ [v]) + ab (g - v) := by
    rw [List.append_assoc]
    exact lenF_snoc xs v g
  rw [e1, e2, e3]
  unfold ab at *
  omega
theorem one_grow {c s g a b : Int} (c0 : 0 ≤ c) (s0 : 0 ≤ s) (s1 : s ≤ c) (hab : (a = c ∧ b = 0) ∨ (a = 0 ∧ b = c)) (n : Nat) : lenF (s :: (swayF a b (n + 1) ++ [g])) ≤ lenF (s :: (swayF a b n ++ [g])) + 2 * c := by
  have e : s :: (swayF a b (n + 1) ++ [g]) = (s :: swayF a b n) ++ [if n % 2 = 0 then a else b, g] := by
    rw [sway_snoc]
    simp
  have e2 : s :: (swayF a b n ++ [g]) = (s :: swayF a b n) ++ [g] := rfl
  rw [e, e2]
  obtain ⟨xs, v, hv, v0, v1⟩ : ∃ xs v, s :: swayF a b n = xs ++ [v] ∧ 0 ≤ v ∧ v ≤ c := by
    cases n with
    | zero => exact ⟨[], s, rfl, s0, s1⟩
    | succ n =>
      refine ⟨s :: swayF a b n, _, by rw [sway_snoc]; rfl, ?_, ?_⟩
      · split <;> omega
      · split <;> omega
  rw [hv]
  refine lenF_more xs v _ g c ?_
  unfold ab
  split <;> split <;> omega
theorem way_ge (c s g : Int) (n : Nat) : lenF (s :: (swayF c 0 n ++ [g])) ≤ lenF (wayF c s g n) ∧ lenF (s :: (swayF 0 c n ++ [g])) ≤ lenF (wayF c s g n) := by
  unfold wayF
  split <;> omega
theorem way_grow {c s g : Int} (c0 : 0 ≤ c) (s0 : 0 ≤ s) (s1 : s ≤ c) (n : Nat) : lenF (wayF c s g (n + 1)) ≤ lenF (wayF c s g n) + 2 * c := by
  obtain ⟨h1, h2⟩ := way_ge c s g n
  have z1 := one_grow (g := g) c0 s0 s1 (.inl ⟨rfl, rfl⟩) n
  have z2 := one_grow (g := g) c0 s0 s1 (.inr ⟨rfl, rfl⟩) n
  have e : wayF c s g (n + 1) = if lenF (s :: (swayF c 0 (n + 1) ++ [g])) ≥ lenF (s :: (swayF 0 c (n + 1) ++ [g])) then s :: (swayF c 0 (n + 1) ++ [g]) else s :: (swayF 0 c (n + 1) ++ [g]) := rfl
  rw [e]
  split <;> omega
/-- the numbers stay in the house -/
theorem pts_in {c s g e : Int} (c0 : 0 ≤ c) (s0 : 0 ≤ s) (s1 : s ≤ c) (g0 : 0 ≤ g) (g1 : g ≤ c) (he : ab (g - s) ≤ e) {B : Nat} (hB : e ≤ lenF (wayF c s g B)) (hl : ∀ k, k < B → lenF (wayF c s g k) < e) :
    ∀ x ∈ nearerF e (wayF c s g B), 0 ≤ x ∧ x ≤ c := by
  cases B with
  | zero =>
    rw [way_zero] at hB ⊢
    have ez : lenF [s, g] = ab (g - s) := by simp [lenF]
    have el : lenF [s, g] - e = 0 := by omega
    have e2 : nearerF e [s, g] = [s, g] := by
      show s :: (if g < s then g + (lenF [s, g] - e) / 2 else g + -((lenF [s, g] - e) / 2)) :: [] = _
      rw [el]
      split <;> simp
    rw [e2]
    intro x hx
    rcases List.mem_cons.mp hx with rfl | h
    · exact ⟨s0, s1⟩
    · rw [List.mem_singleton.mp h]
      exact ⟨g0, g1⟩
  | succ n =>
    have hn := hl n (Nat.lt_succ_self n)
    have gr := way_grow (g := g) c0 s0 s1 n
    obtain ⟨y, r, hw, hy⟩ : ∃ y r, wayF c s g (n + 1) = s :: y :: r ∧ ((y = c ∧ y :: r = swayF c 0 (n + 1) ++ [g]) ∨ (y = 0 ∧ y :: r = swayF 0 c (n + 1) ++ [g])) := by
      unfold wayF
      split
      · exact ⟨c, swayF 0 c n ++ [g], by rw [sway_cons]; rfl, .inl ⟨rfl, by rw [sway_cons]; rfl⟩⟩
      · exact ⟨0, swayF c 0 n ++ [g], by rw [sway_cons]; rfl, .inr ⟨rfl, by rw [sway_cons]; rfl⟩⟩
    have win := way_in c0 s0 s1 g0 g1 (n + 1)
    rw [hw] at hB gr win ⊢
    have y01 := win y (by simp)
    have far : ¬ (y = 0 ∧ s = 0 ∧ y :: r = swayF 0 c (n + 1) ++ [g]) := by
      rintro ⟨rfl, rfl, er⟩
      rw [sway_cons] at er
      have er2 : r = swayF c 0 n ++ [g] := by injection er
      have z := (way_ge c 0 g n).1
      rw [← er2] at z
      have z2 : lenF (0 :: 0 :: r) = lenF (0 :: r) := by
        show ab (0 - 0) + lenF (0 :: r) = lenF (0 :: r)
        simp [ab]
      omega
    intro x hx
    have sp : 0 ≤ (lenF (s :: y :: r) - e) / 2 ∧ (lenF (s :: y :: r) - e) / 2 ≤ c := by omega
    have hx' : x ∈ s :: (if y < s then y + (lenF (s :: y :: r) - e) / 2 else y + -((lenF (s :: y :: r) - e) / 2)) :: r := hx
    generalize (lenF (s :: y :: r) - e) / 2 = d at *
    rcases List.mem_cons.mp hx' with rfl | h
    · exact ⟨s0, s1⟩
    · rcases (List.mem_cons.mp h) with rfl | h
      · rcases hy with ⟨rfl, er⟩ | ⟨rfl, er⟩
        · split <;> omega
        · have : s ≠ 0 := fun z => far ⟨rfl, z, er⟩
          rw [if_pos (by omega)]
          omega
      · exact win x (by simp [h])
theorem into_ok {c lo hi : Int} (l0 : 0 ≤ lo) (lh : lo ≤ hi) (h1 : hi ≤ c) : (∀ s ∈ intoF c lo hi, s.ok c) ∧ (intoF c lo hi).length ≤ 2 := by
  unfold intoF
  constructor
  · intro s hs
    rcases List.mem_append.mp hs with z | z
    · split at z
      · rw [(List.mem_singleton.mp z)]
        exact ⟨by omega, by omega⟩
      · cases z
    · split at z
      · rw [(List.mem_singleton.mp z)]
        exact ⟨by omega, by omega⟩
      · cases z
  · rw [List.length_append]
    split <;> split <;> simp
/-- the steps without a turn -/
def bareM (c : Int) (m : Sm) : List Stp := if m.extra = 0 then intoF c m.low m.high else let ps := ptsF c m.low (m.goal.getD 0) m.extra; thruF c (decide (ps.getD 0 0 > ps.getD 1 0)) ps
theorem bare_ok {c : Int} {m : Sm} (h : SmFit c m) : (∀ s ∈ bareM c m, s.ok c) ∧ (bareM c m).length ≤ 53 := by
  unfold bareM
  by_cases e : m.extra = 0
  · rw [if_pos e]
    obtain ⟨a, b⟩ := into_ok h.l0 h.lh h.h1
    exact ⟨a, by omega⟩
  · rw [if_neg e]
    obtain ⟨z, ez, z0, z1, za, b, b1, h2⟩ := h.g e
    obtain ⟨i1, i2, i3, i4⟩ := fewB_spec 60 0 b (Nat.zero_le _) (by omega) h2
    rw [ez]
    refine ⟨thru_ok (pts_in h.c0 h.l0 (by have := h.lh; have := h.h1; omega) z0 z1 za i1 fun k hk => i4 k (Nat.zero_le _) hk), ?_⟩
    rw [thru_len]
    show (nearerF m.extra (wayF c m.low z (fewB c m.low z m.extra 60 0))).length ≤ 53
    rw [near_len, way_len]
    omega
/-- how long ways are -/
theorem way_far {c s g : Int} (c0 : 0 ≤ c) : ∀ n : Nat, (n : Int) * c ≤ lenF (s :: (swayF c 0 (n + 1) ++ [g])) := by
  have key : ∀ (n : Nat) (a b : Int), ((a = c ∧ b = 0) ∨ (a = 0 ∧ b = c)) → (n : Int) * c ≤ lenF (swayF a b (n + 1) ++ [g]) := by
    intro n
    induction n with
    | zero =>
      intro a b _
      have := lenF_nonneg (swayF a b (0 + 1) ++ [g])
      simp only [Int.natCast_zero, Int.zero_mul]
      omega
    | succ n ih =>
      intro a b hab
      have z := ih b a (by rcases hab with ⟨h1, h2⟩ | ⟨h1, h2⟩; exact .inr ⟨h2, h1⟩; exact .inl ⟨h2, h1⟩)
      have e : swayF a b (n + 1 + 1) ++ [g] = a :: b :: (swayF a b n ++ [g]) := by
        rw [sway_cons, sway_cons]
        rfl
      have e2 : swayF b a (n + 1) ++ [g] = b :: (swayF a b n ++ [g]) := by
        rw [sway_cons]
        rfl
      rw [e2] at z
      rw [e]
      show _ ≤ ab (b - a) + lenF (b :: (swayF a b n ++ [g]))
      have h : ab (b - a) = c := by
        unfold ab
        rcases hab with ⟨h1, h2⟩ | ⟨h1, h2⟩
        all_goals
          subst h1
          subst h2
          split <;> omega
      rw [h]
      have e3 : ((n + 1 : Nat) : Int) * c = (n : Int) * c + c := by
        rw [Int.natCast_succ, Int.add_mul, Int.one_mul]
      omega
  intro n
  have z := key n c 0 (.inl ⟨rfl, rfl⟩)
  have e : s :: (swayF c 0 (n + 1) ++ [g]) = s :: c :: (swayF 0 c n ++ [g]) := by
    rw [sway_cons]
    rfl
  have e2 : swayF c 0 (n + 1) ++ [g] = c :: (swayF 0 c n ++ [g]) := by
    rw [sway_cons]
    rfl
  rw [e2] at z
  rw [e]
  show _ ≤ ab (c - s) + lenF (c :: (swayF 0 c n ++ [g]))
  have := ab_nonneg (c - s)
  omega
structure SmGrow (c : Int) (m : Sm) (n : Nat) : Prop where
  ok : SmOk c m
  e0 : 0 ≤ m.extra
  e1 : m.extra ≤ (n : Int) * c
  g : ∀ z, m.goal = some z → ab (z - m.low) ≤ m.extra
theorem allow_in {c n : Int} {t b : Bool} (n0 : 0 ≤ n) (n1 : n ≤ c) : 0 ≤ (allowF c t b n).1 ∧ (allowF c t b n).1 ≤ (allowF c t b n).2 ∧ (allowF c t b n).2 ≤ c := by
  unfold allowF
  split
  · exact ⟨Int.le_refl 0, by show 0 ≤ c - n; omega, by show c - n ≤ c; omega⟩
  · exact ⟨n0, n1, Int.le_refl c⟩
theorem smGrow_step {c : Int} {m : Sm} {s : Stp} {n : Nat} (h : SmGrow c m n) (hs : s.ok c) (c0 : 0 ≤ c) : SmGrow c (smStep c m s) (n + 1) := by
  have ok := smOk_step h.ok hs
  have en : ((n + 1 : Nat) : Int) * c = (n : Int) * c + c := by
    rw [Int.natCast_succ, Int.add_mul, Int.one_mul]
  have nn : 0 ≤ (n : Int) * c := Int.mul_nonneg (by omega) c0
  cases s with
  | turn => exact ⟨ok, h.e0, by rw [en]; show m.extra ≤ _; have := h.e1; omega, h.g⟩
  | meet b k =>
    obtain ⟨k0, k1⟩ := hs
    obtain ⟨a0, a1, a2⟩ := allow_in (t := m.turned) (b := b) k0 k1
    obtain ⟨low, high, extra, goal, turned⟩ := m
    obtain ⟨⟨l0, lh, h1, hg, he⟩, e0, e1, g⟩ := h
    simp only at l0 lh h1 hg he e0 e1 g a0 a1 a2
    cases goal with
    | none =>
      have hE := he rfl
      have e : smStep c ⟨low, high, extra, none, turned⟩ (.meet b k) = ⟨(narrowF low high (allowF c turned b k).1 (allowF c turned b k).2).1, (narrowF low high (allowF c turned b k).1 (allowF c turned b k).2).2.1, (narrowF low high (allowF c turned b k).1 (allowF c turned b k).2).2.2.1, (narrowF low high (allowF c turned b k).1 (allowF c turned b k).2).2.2.2, turned⟩ := rfl
      rw [e] at ok ⊢
      clear e
      generalize (allowF c turned b k).1 = x at *
      generalize (allowF c turned b k).2 = y at *
      have nc : (high < x ∧ narrowF low high x y = (high, high, x - high, some x)) ∨ (¬ high < x ∧ y < low ∧ narrowF low high x y = (low, low, low - y, some y)) ∨ narrowF low high x y = (mx low x, (if y < high then y else high), 0, none) := by
        unfold narrowF
        by_cases q : x > high
        · exact .inl ⟨q, if_pos q⟩
        · by_cases r : y < low
          · exact .inr (.inl ⟨q, r, by rw [if_neg q, if_pos r]⟩)
          · exact .inr (.inr (by rw [if_neg q, if_neg r]))
      rcases nc with ⟨q, e⟩ | ⟨q, r, e⟩ | e
      · rw [e] at ok ⊢
        refine ⟨ok, by show 0 ≤ x - high; omega, by rw [en]; show x - high ≤ _; omega, fun z hz => ?_⟩
        have hz' : x = z := by injection hz
        subst hz'
        show ab (x - high) ≤ x - high
        unfold ab
        split <;> omega
      · rw [e] at ok ⊢
        refine ⟨ok, by show 0 ≤ low - y; omega, by rw [en]; show low - y ≤ _; omega, fun z hz => ?_⟩
        have hz' : y = z := by injection hz
        subst hz'
        show ab (y - low) ≤ low - y
        unfold ab
        split <;> omega
      · rw [e] at ok ⊢
        exact ⟨ok, Int.le_refl 0, by rw [en]; show (0 : Int) ≤ _; omega, fun z hz => nomatch hz⟩
    | some q =>
      have gq := g q rfl
      have q01 := hg q rfl
      have e : smStep c ⟨low, high, extra, some q, turned⟩ (.meet b k) = ⟨low, high, extra + ab (nearF q (allowF c turned b k).1 (allowF c turned b k).2 - q), some (nearF q (allowF c turned b k).1 (allowF c turned b k).2), turned⟩ := rfl
      rw [e] at ok ⊢
      clear e
      generalize (allowF c turned b k).1 = x at *
      generalize (allowF c turned b k).2 = y at *
      have f0 : 0 ≤ nearF q x y ∧ nearF q x y ≤ c := by
        rw [near_is a1]
        unfold clampF
        split
        · omega
        · split <;> omega
      generalize nearF q x y = f at *
      refine ⟨ok, ?_, ?_, fun z hz => ?_⟩
      · show 0 ≤ extra + ab (f - q)
        have := ab_nonneg (f - q)
        omega
      · rw [en]
        show extra + ab (f - q) ≤ _
        unfold ab
        split <;> omega
      · have hz' : f = z := by injection hz
        subst hz'
        show ab (f - low) ≤ extra + ab (f - q)
        unfold ab at *
        split <;> split <;> split at gq <;> omega
theorem smGrow_all {c : Int} (c0 : 0 ≤ c) (ss : List Stp) : (∀ s ∈ ss, s.ok c) → SmGrow c (smSteps c ss) ss.length := by
  refine snoc_ind (M := fun l => (∀ s ∈ l, s.ok c) → SmGrow c (smSteps c l) l.length) ?_ ?_ ss
  · intro _
    exact ⟨(says_start c 0 (Int.le_refl 0) c0).1, Int.le_refl 0, by show (0 : Int) ≤ ((0 : Nat) : Int) * c; simp, fun z h => nomatch h⟩
  · intro l a ih h
    have z := smGrow_step (ih fun s hs => h s (List.mem_append_left _ hs)) (h a (by simp)) c0
    rw [← smSteps_more] at z
    rw [List.length_append]
    exact z
/-- every summary of at most 40 steps fits -/
theorem smFit_of {c : Int} {ss : List Stp} (c0 : 0 ≤ c) (hs : ∀ s ∈ ss, s.ok c) (hl : ss.length ≤ 40) : SmFit c (smEnd (smSteps c ss)) := by
  obtain ⟨ok, e0, e1, g⟩ := smGrow_all c0 ss hs
  have far : ∀ s z : Int, (smSteps c ss).extra ≤ lenF (wayF c s z 41) := by
    intro s z
    have a : ((40 : Nat) : Int) * c ≤ lenF (s :: (swayF c 0 41 ++ [z])) := way_far (s := s) (g := z) c0 40
    have b := (way_ge c s z 41).1
    have d : (ss.length : Int) * c ≤ ((40 : Nat) : Int) * c := Int.mul_le_mul_of_nonneg_right (by omega) c0
    omega
  generalize smSteps c ss = m at *
  unfold smEnd
  by_cases q : m.low = m.high ∧ m.goal = none
  · rw [if_pos q]
    have hE := ok.e q.2
    exact ⟨c0, ok.l0, ok.lh, ok.h1, e0, fun h => absurd hE h⟩
  · rw [if_neg q]
    refine ⟨c0, ok.l0, ok.lh, ok.h1, e0, fun h => ?_⟩
    cases hg : m.goal with
    | none => exact absurd (ok.e hg) h
    | some z => exact ⟨z, rfl, (ok.g z hg).1, (ok.g z hg).2, g z hg, 41, by decide, far _ _⟩
end Cc

namespace Cc
open PySem PySem.Spec PyProof.Rows L2
def rGetL : V → V → Hp → VK → Prop := fun o i H Q => ∃ (p : Addr) (xs : List V) (j : Nat) (v : V), o = .ref p ∧ i = .int j ∧ H p = some (.lst xs) ∧ xs[j]? = some v ∧ Q v H
theorem get_listR {X : Cx} : PGet X rGetL := by
  intro pins s σ H o i ov iv Q I ro ri h
  obtain ⟨p, xs, j, v, rfl, rfl, hp, hj, q⟩ := h
  cases ro
  obtain ⟨t, rfl⟩ := ri
  obtain ⟨its, n, r, ho, hz⟩ := (I.lst hp)
  obtain ⟨w, ew, rw'⟩ := r.get hj
  have hl := r.length
  have hn := line63
  have hjl : j < xs.length := (List.getElem?_eq_some_iff.mp hj).1
  exact wpAny_getItem_list (x := w) ⟨_, ho, rfl, _, rfl⟩ (by omega) (by omega) (by rw [Int.toNat_natCast]; simpa using ew) ⟨v, H, I, rw', q⟩
def intSl (σ : L2.St) (i : Nat) : Int := match σ[i]? with
  | some (some (.int z)) => z
  | _ => 0
/-! ### promises -/
def spLen : Sp := fun vs H Q _ => ∃ (l : Addr) (ns : List Int), vs = [.ref l] ∧ H l = some (.lst (ns.map V.int)) ∧ ns.length ≤ 1000 ∧ Q (.int (lenF ns)) H
def spSway : Sp := fun vs H Q _ => ∃ (a b : Int) (n : Nat), vs = [.int a, .int b, .int n] ∧ n ≤ 100 ∧ ∀ l H', Same H H' → H l = none → H' l = some (.lst ((swayF a b n).map V.int)) → Q (.ref l) H'
def spWay : Sp := fun vs H Q _ => ∃ (c s g : Int) (n : Nat), vs = [.int c, .int s, .int g, .int n] ∧ n ≤ 100 ∧ ∀ l H', Same H H' → H l = none → H' l = some (.lst ((wayF c s g n).map V.int)) → Q (.ref l) H'
def spPts : Sp := fun vs H Q _ => ∃ (c s g e : Int), vs = [.int c, .int s, .int g, .int e] ∧ (∃ b, b ≤ 50 ∧ e ≤ lenF (wayF c s g b)) ∧ ∀ l H', Same H H' → H l = none → H' l = some (.lst ((ptsF c s g e).map V.int)) → Q (.ref l) H'
def spThru : Sp := fun vs H Q _ => ∃ (c : Int) (l : Addr) (ps : List Int), vs = [.int c, .ref l] ∧ H l = some (.lst (ps.map V.int)) ∧ 2 ≤ ps.length ∧ ps.length ≤ 100 ∧
  ∀ r ws H', Same H H' → H r = none → H' r = some (.lst ws) → Steps H' ws (thruF c (decide (ps.getD 0 0 > ps.getD 1 0)) ps) → Q (.ref r) H'
def spInto : Sp := fun vs H Q _ => ∃ (c lo hi : Int), vs = [.int c, .int lo, .int hi] ∧ ∀ r ws H', Same H H' → H r = none → H' r = some (.lst ws) → Steps H' ws (intoF c lo hi) → Q (.ref r) H'
def spSimple (K : PySem.W.Frag) (C : Addr) : Sp := fun vs H Q _ => ∃ (p : Addr) (ss : List Stp) (c : Int), vs = [.ref p, .int c] ∧ PlanAt C H p ss ∧ c ≤ 1000000000000000000 ∧ (∀ s ∈ ss, s.ok c) ∧ ss.length ≤ 60 ∧ SmFit c (smEnd (smSteps c ss)) ∧
  ∀ q H', Same H H' → PlanV K C H' q (simpleF c ss) → Q (.ref q) H'
theorem upd_steps {H : Hp} {l : Addr} {xs ys : List V} {ws : List V} {ss : List Stp} (h : H l = some (.lst xs)) (s : Steps H ws ss) : Steps (upd H l (.lst ys)) ws ss := s.mono fun t us e => by
  rw [upd_ne (ne_of e h fun z => nomatch z)]
  exact e
section
variable {P : Program} {w : World} {K : PySem.W.Frag} {mg : Str → Option Value} {base : Heap} {C TU pS gS : Addr} {mc : Value}
abbrev s_length_of : Stmt := top 56
abbrev n_length_of : List Str := ["points", "total", "at"]
theorem sc_length_of : FnScope n_length_of ["points"] (defScope s_length_of) := ⟨rfl, rfl, rfl, by decide +kernel, rfl, by decide +kernel, by decide +kernel⟩
theorem ok_length_of {f : Addr} {fd : FuncData} (F : Fun K "length_of" "length_of" s_length_of f fd) (T : Txt K mg C TU pS gS mc) : FnOk P w K mg base CX0 1 f fd ["points"] spLen := by
  refine F.ok sc_length_of (fun vs H Q E h => ?_) (fun cdv A outer s H vs Q E hr h => ?_)
  · obtain ⟨l, ns, rfl, _⟩ := h
    rfl
  · obtain ⟨l, ns, rfl, hl, hn, k⟩ := h
    refine ⟨_, pss_cons (ps_set (i := 1) sc_length_of.nd rfl (.inl rfl) pe_int)
      (pss_cons (ps_for PassesOwn.never rfl (pi_range2 rfl T.b.range (pa_cons pe_int (pa_cons (pe_callB call_len_seq (by rfl) T.b.len PySem.boot_len (pa_cons (pv 0) pa_nil)) pa_nil))) (pg_name (i := 2) sc_length_of.nd rfl (.inl rfl))
        (pss_one (ps_aug (i := 1) sc_length_of.nd rfl (.inl rfl) (pe_callB call_abs (by rfl) T.b.abs (by decide +kernel) (pa_cons (pe_op op_sub (pe_ix ix_list (pv 0) (pv 2) (fun _ _ => rfl)) (pe_ix ix_list (pv 0) (pe_op op_sub (pv 2) pe_int) (fun _ _ => rfl))) pa_nil)) ip_add)))
      (pss_one (ps_ret (pv 1)))), ?_⟩
    refine ⟨_, rfl, l, _, rfl, .inl (SqL.of hl), 1, _, rfl, ⟨by decide, by decide, by omega, by rw [List.length_map]; omega⟩, ?_⟩
    rw [List.length_map]
    refine for_range (lo := 1) (n := ((ns.length : Int) - 1).toNat) (fun i σ H' => ∃ x, σ = [some (.ref l), some (.int (lenF (ns.take (i + 1)))), x] ∧ H' = H) ⟨none, by cases ns <;> rfl, rfl⟩ ?_ ?_
    · rintro i σ H' hi ⟨x, rfl, rfl⟩
      obtain ⟨a, ha⟩ : ∃ a, ns[i]? = some a := ⟨_, List.getElem?_eq_getElem (by omega)⟩
      obtain ⟨b, hb⟩ : ∃ b, ns[i + 1]? = some b := ⟨_, List.getElem?_eq_getElem (by omega)⟩
      have va : (ns.map V.int)[i]? = some (.int a) := by rw [List.getElem?_map, ha]; rfl
      have vb : (ns.map V.int)[i + 1]? = some (.int b) := by rw [List.getElem?_map, hb]; rfl
      refine ⟨_, rfl, _, rfl, _, rfl, l, _, _, _, rfl, rfl, SqL.of hl, at_of (j := i + 1) (by omega) vb, _, rfl, _, rfl, _, _, rfl, rfl, l, _, _, _, rfl, rfl, SqL.of hl, at_of (j := i) (by omega) va, _, _, rfl, rfl, _, rfl, _, _, rfl, rfl, some (.int (1 + (i : Int))), ?_, rfl⟩
      rw [lenF_take ha hb]
      rfl
    · rintro σ H' ⟨x, rfl, rfl⟩
      refine ⟨_, rfl, ?_⟩
      have e : lenF (ns.take (((ns.length : Int) - 1).toNat + 1)) = lenF ns := by
        rw [List.take_of_length_le (by omega)]
      rw [e]
      exact k
abbrev s_alternately : Stmt := top 55
abbrev n_alternately : List Str := ["first", "second", "many", "at"]
theorem sc_alternately : FnScope n_alternately ["first", "second", "many"] (defScope s_alternately) := ⟨rfl, rfl, rfl, by decide +kernel, rfl, by decide +kernel, by decide +kernel⟩
theorem ok_alternately {f : Addr} {fd : FuncData} (F : Fun K "alternately" "alternately" s_alternately f fd) (T : Txt K mg C TU pS gS mc) : FnOk P w K mg base CX0 1 f fd ["first", "second", "many"] spSway := by
  refine F.ok sc_alternately (fun vs H Q E h => ?_) (fun cdv A outer s H vs Q E hr h => ?_)
  · obtain ⟨a, b, n, rfl, _⟩ := h
    rfl
  · obtain ⟨a, b, n, rfl, hn, k⟩ := h
    refine ⟨_, pss_one (ps_ret (pe_lc (own := [("at", 3)]) (g := gName 3) (tt := tYes) (te := (tIf (tTest (tOp rEq (tOp (rI (fun _ j => 0 < j) fun i j => .int (i % j)) (tVar 3) (tC (.int 2))) (tC (.int 0)))) (tVar 0) (tVar 1))) rfl sc_alternately.nd (pi_range1 rfl T.b.range (pa_cons (pv 2) pa_nil)) (blkOk_by (N := n_alternately) (sc := defScope s_alternately) (by decide +kernel)) (fun _ _ _ _ _ => pg_name (i := 3) sc_alternately.nd rfl (.inl rfl)) (fun _ _ _ _ _ => by exact pts_nil) (fun _ _ _ _ _ => by exact (pe_ifExp (pt_cmpR op_eq (pe_op op_mod (pv 3) pe_int) pe_int (nomark _)) (pv 0) (pv 1))))), ?_⟩
    refine ⟨_, rfl, n, rfl, by omega, by omega, fun D hD => ?_⟩
    rw [Int.toNat_natCast]
    refine lc_range (lo := 0) (n := n) (fun i H' => Same H H' ∧ H' D = some (.lst ((swayF a b i).map V.int))) ⟨same_upd hD, upd_same⟩ ?_ ?_
    · rintro i Hx hi ⟨sx, ex⟩
      refine ⟨rfl, _, rfl, _, _, rfl, rfl, by show (0 : Int) < 2; decide, rfl, _, rfl, ?_⟩
      have e2 : (swayF a b (i + 1)).map V.int = (swayF a b i).map V.int ++ [.int (if i % 2 = 0 then a else b)] := by
        unfold swayF
        rw [List.range_succ, List.map_append, List.map_append]
        rfl
      by_cases h : i % 2 = 0
      · rw [if_pos h] at e2
        refine ifT (by simp; omega) ⟨_, rfl, _, ex, small1000 (by rw [List.length_map, sway_len]; omega), same_new hD sx, upd_lst e2.symm⟩
      · rw [if_neg h] at e2
        refine ifF (by simp; omega) ⟨_, rfl, _, ex, small1000 (by rw [List.length_map, sway_len]; omega), same_new hD sx, upd_lst e2.symm⟩
    · rintro Hx ⟨sx, ex⟩
      exact k D Hx sx hD ex
abbrev s_longest_points : Stmt := top 54
abbrev n_longest_points : List Str := ["chairs", "start", "goal", "between", "upwards", "downwards"]
theorem sc_longest_points : FnScope n_longest_points ["chairs", "start", "goal", "between"] (defScope s_longest_points) := ⟨rfl, rfl, rfl, by decide +kernel, rfl, by decide +kernel, by decide +kernel⟩
theorem ok_longest_points {f f_alternately f_length_of : Addr} {fd : FuncData} (F : Fun K "longest_points" "longest_points" s_longest_points f fd) (D_alternately : Dn P w K mg base 1 "alternately" f_alternately spSway) (D_length_of : Dn P w K mg base 1 "length_of" f_length_of spLen) : FnOk P w K mg base CX0 2 f fd ["chairs", "start", "goal", "between"] spWay := by
  refine F.ok sc_longest_points (fun vs H Q E h => ?_) (fun cdv A outer s H vs Q E hr h => ?_)
  · obtain ⟨c, s, g, n, rfl, _⟩ := h
    rfl
  · obtain ⟨c, st, g, n, rfl, hn, k⟩ := h
    refine ⟨_, pss_cons (ps_set (i := 4) sc_longest_points.nd rfl (.inl rfl) (pe_op op_cat (pe_op op_cat (pe_lst (pa_cons (pv 1) pa_nil)) (pe_callR D_alternately.ok (hr.mono (by decide)) rfl D_alternately.at_ D_alternately.kp pass0 (pa_cons (pv 0) (pa_cons pe_int (pa_cons (pv 3) pa_nil))))) (pe_lst (pa_cons (pv 2) pa_nil))))
      (pss_cons (ps_set (i := 5) sc_longest_points.nd rfl (.inl rfl) (pe_op op_cat (pe_op op_cat (pe_lst (pa_cons (pv 1) pa_nil)) (pe_callR D_alternately.ok (hr.mono (by decide)) rfl D_alternately.at_ D_alternately.kp pass0 (pa_cons pe_int (pa_cons (pv 0) (pa_cons (pv 3) pa_nil))))) (pe_lst (pa_cons (pv 2) pa_nil))))
      (pss_one (ps_ret (pe_ifExp (pt_cmpR op_ge (pe_callR D_length_of.ok (hr.mono (by decide)) rfl D_length_of.at_ D_length_of.kp pass0 (pa_cons (pv 4) pa_nil)) (pe_callR D_length_of.ok (hr.mono (by decide)) rfl D_length_of.at_ D_length_of.kp pass0 (pa_cons (pv 5) pa_nil)) (nomark _)) (pv 4) (pv 5))))), ?_⟩
    have sz : ∀ (x : Int) (ys : List Int), ys.length ≤ 200 → (V.int x :: ys.map V.int).length ≤ 201 := fun x ys h => by
      rw [List.length_cons, List.length_map]
      omega
    refine ⟨_, rfl, by show 1 ≤ sizeLine; decide, fun p1 h1 => ⟨_, rfl, _, rfl, c, 0, n, rfl, hn, fun l1 H1 s1 n1 e1 => ?_⟩⟩
    refine ⟨p1, l1, _, _, rfl, rfl, s1 _ _ upd_same, e1, by rw [List.length_map, sway_len]; show 1 + n ≤ sizeLine; rw [sizeLine_eq]; omega, fun p2 h2 => ⟨_, rfl, by show 1 ≤ sizeLine; decide, fun p3 h3 => ?_⟩⟩
    refine ⟨p2, p3, _, _, rfl, rfl, (same_upd h3) _ _ upd_same, upd_same, by rw [List.length_append, List.length_map, sway_len]; show 1 + n + 1 ≤ sizeLine; rw [sizeLine_eq]; omega, fun p4 h4 => ?_⟩
    have S4 : Same H (upd (upd (upd H1 p2 (.lst ([.int st] ++ (swayF c 0 n).map V.int))) p3 (.lst [.int g])) p4 (.lst (([.int st] ++ (swayF c 0 n).map V.int) ++ [.int g]))) := ((((same_upd h1).trans s1).trans (same_upd h2)).trans (same_upd h3)).trans (same_upd h4)
    have E4 : (upd (upd (upd H1 p2 (.lst ([.int st] ++ (swayF c 0 n).map V.int))) p3 (.lst [.int g])) p4 (.lst (([.int st] ++ (swayF c 0 n).map V.int) ++ [.int g]))) p4 = some (.lst ((st :: (swayF c 0 n ++ [g])).map V.int)) := by
      rw [upd_same]
      simp
    have N4 : H p4 = none := same_none ((((same_upd h1).trans s1).trans (same_upd h2)).trans (same_upd h3)) h4
    generalize upd (upd (upd H1 p2 (.lst ([.int st] ++ (swayF c 0 n).map V.int))) p3 (.lst [.int g])) p4 (.lst (([.int st] ++ (swayF c 0 n).map V.int) ++ [.int g])) = H4 at *
    refine ⟨_, rfl, by show 1 ≤ sizeLine; decide, fun q1 k1 => ⟨_, rfl, _, rfl, 0, c, n, rfl, hn, fun m1 H5 s5 n5 e5 => ?_⟩⟩
    refine ⟨q1, m1, _, _, rfl, rfl, s5 _ _ upd_same, e5, by rw [List.length_map, sway_len]; show 1 + n ≤ sizeLine; rw [sizeLine_eq]; omega, fun q2 k2 => ⟨_, rfl, by show 1 ≤ sizeLine; decide, fun q3 k3 => ?_⟩⟩
    refine ⟨q2, q3, _, _, rfl, rfl, (same_upd k3) _ _ upd_same, upd_same, by rw [List.length_append, List.length_map, sway_len]; show 1 + n + 1 ≤ sizeLine; rw [sizeLine_eq]; omega, fun q4 k4 => ?_⟩
    have S8 : Same H4 (upd (upd (upd H5 q2 (.lst ([.int st] ++ (swayF 0 c n).map V.int))) q3 (.lst [.int g])) q4 (.lst (([.int st] ++ (swayF 0 c n).map V.int) ++ [.int g]))) := ((((same_upd k1).trans s5).trans (same_upd k2)).trans (same_upd k3)).trans (same_upd k4)
    have E8 : (upd (upd (upd H5 q2 (.lst ([.int st] ++ (swayF 0 c n).map V.int))) q3 (.lst [.int g])) q4 (.lst (([.int st] ++ (swayF 0 c n).map V.int) ++ [.int g]))) q4 = some (.lst ((st :: (swayF 0 c n ++ [g])).map V.int)) := by
      rw [upd_same]
      simp
    have N8 : H q4 = none := same_none S4 (same_none ((((same_upd k1).trans s5).trans (same_upd k2)).trans (same_upd k3)) k4)
    generalize upd (upd (upd H5 q2 (.lst ([.int st] ++ (swayF 0 c n).map V.int))) q3 (.lst [.int g])) q4 (.lst (([.int st] ++ (swayF 0 c n).map V.int) ++ [.int g])) = H8 at *
    have F4 := S8 _ _ E4
    have S := S4.trans S8
    have L1 : (st :: (swayF c 0 n ++ [g])).length ≤ 1000 := by
      rw [List.length_cons, List.length_append, sway_len]
      show n + 1 + 1 ≤ 1000
      omega
    have L2 : (st :: (swayF 0 c n ++ [g])).length ≤ 1000 := by
      rw [List.length_cons, List.length_append, sway_len]
      show n + 1 + 1 ≤ 1000
      omega
    have ew : wayF c st g n = if lenF (st :: (swayF c 0 n ++ [g])) ≥ lenF (st :: (swayF 0 c n ++ [g])) then st :: (swayF c 0 n ++ [g]) else st :: (swayF 0 c n ++ [g]) := rfl
    generalize st :: (swayF c 0 n ++ [g]) = up at *
    generalize st :: (swayF 0 c n ++ [g]) = dn at *
    refine ⟨_, rfl, p4, up, rfl, F4, L1, _, rfl, q4, dn, rfl, E8, L2, _, _, rfl, rfl, _, rfl, ?_⟩
    by_cases h : lenF dn ≤ lenF up
    · refine ifT (decide_eq_true h) ⟨_, rfl, k p4 H8 S N4 ?_⟩
      rw [ew, if_pos h]
      exact F4
    · refine ifF (decide_eq_false h) ⟨_, rfl, k q4 H8 S N8 ?_⟩
      rw [ew, if_neg h]
      exact E8
abbrev s_turning_points : Stmt := top 53
abbrev n_turning_points : List Str := ["chairs", "start", "goal", "extra", "points", "between", "spare"]
theorem sc_turning_points : FnScope n_turning_points ["chairs", "start", "goal", "extra"] (defScope s_turning_points) := ⟨rfl, rfl, rfl, by decide +kernel, rfl, by decide +kernel, by decide +kernel⟩
theorem ok_turning_points {f f_length_of f_longest_points : Addr} {fd : FuncData} (F : Fun K "turning_points" "turning_points" s_turning_points f fd) (D_length_of : Dn P w K mg base 1 "length_of" f_length_of spLen) (D_longest_points : Dn P w K mg base 2 "longest_points" f_longest_points spWay) : FnOk P w K mg base CX0 3 f fd ["chairs", "start", "goal", "extra"] spPts := by
  refine F.ok sc_turning_points (fun vs H Q E h => ?_) (fun cdv A outer s H vs Q E hr h => ?_)
  · obtain ⟨c, s, g, e, rfl, _⟩ := h
    rfl
  · obtain ⟨c, st, g, e, rfl, ⟨bb, b50, hb⟩, k⟩ := h
    refine ⟨_, pss_cons (ps_set (i := 4) sc_turning_points.nd rfl (.inl rfl) (pe_lst (pa_cons (pv 1) (pa_cons (pv 2) pa_nil))))
      (pss_cons (ps_set (i := 5) sc_turning_points.nd rfl (.inl rfl) pe_int)
      (pss_cons (ps_while PassesOwn.never (pt_cmpR op_lt (pe_callR D_length_of.ok (hr.mono (by decide)) rfl D_length_of.at_ D_length_of.kp pass0 (pa_cons (pv 4) pa_nil)) (pv 3) (nomark _))
        (pss_cons (ps_aug (i := 5) sc_turning_points.nd rfl (.inl rfl) pe_int ip_add)
        (pss_one (ps_set (i := 4) sc_turning_points.nd rfl (.inl rfl) (pe_callR D_longest_points.ok (hr.mono (by decide)) rfl D_longest_points.at_ D_longest_points.kp pass0 (pa_cons (pv 0) (pa_cons (pv 1) (pa_cons (pv 2) (pa_cons (pv 5) pa_nil)))))))))
      (pss_cons (ps_set (i := 6) sc_turning_points.nd rfl (.inl rfl) (pe_op op_fdiv (pe_op op_sub (pe_callR D_length_of.ok (hr.mono (by decide)) rfl D_length_of.at_ D_length_of.kp pass0 (pa_cons (pv 4) pa_nil)) (pv 3)) pe_int))
      (pss_cons (ps_augS (pv 4) pe_int get_listR (pe_ifExp (pt_cmpR op_lt (pe_ix ix_list (pv 4) pe_int (fun _ _ => rfl)) (pe_ix ix_list (pv 4) pe_int (fun _ _ => rfl)) (nomark _)) (pv 6) (pe_un un_neg (pv 6))) ip_add set_list)
      (pss_one (ps_ret (pv 4))))))), ?_⟩
    obtain ⟨i1, i2, i3, i4⟩ := fewB_spec 60 0 bb (Nat.zero_le _) (by omega) hb
    have epts : ptsF c st g e = nearerF e (wayF c st g (fewB c st g e 60 0)) := rfl
    rw [epts] at k
    clear epts
    generalize fewB c st g e 60 0 = B at *
    refine ⟨_, rfl, _, rfl, by show 2 ≤ sizeLine; decide, fun p0 h0 => ?_⟩
    refine while_by (fun σ H' => ∃ (b : Nat) (pl : Addr), σ = [some (.int c), some (.int st), some (.int g), some (.int e), some (.ref pl), some (.int b), none] ∧ Same H H' ∧ H pl = none ∧ H' pl = some (.lst ((wayF c st g b).map V.int)) ∧ b ≤ B)
      (fun σ _ => B - (intSl σ 5).toNat) ⟨0, p0, rfl, same_upd h0, h0, by rw [way_zero]; exact upd_same, Nat.zero_le _⟩ ?_ (fun σ H Q Q' m ⟨v, e1, l, ns, e2, e3, e4, u, e5, i, j, e6, e7, kk, e8, q⟩ => ⟨v, e1, l, ns, e2, e3, e4, u, e5, i, j, e6, e7, kk, e8, m _ _ q⟩)
    rintro σ H1 ⟨b, pl, rfl, s1, n1, e1, hB⟩
    refine ⟨_, rfl, pl, _, rfl, e1, by rw [way_len]; omega, _, rfl, _, _, rfl, rfl, _, rfl, ?_⟩
    by_cases h : lenF (wayF c st g b) < e
    · refine ifT (decide_eq_true h) ⟨_, rfl, _, _, rfl, rfl, _, rfl, _, rfl, _, rfl, _, rfl, c, st, g, b + 1, rfl, ?_, fun l2 H2 s2 n2 e2 => ?_⟩
      · have : b ≠ B := fun z => by
          subst z
          omega
        omega
      · have : b ≠ B := fun z => by
          subst z
          omega
        refine ⟨⟨b + 1, l2, rfl, s1.trans s2, same_none s1 n2, e2, by omega⟩, ?_⟩
        show B - ((b : Int) + 1).toNat < B - ((b : Int)).toNat
        omega
    · have eb : b = B := by
        rcases Nat.lt_or_ge b B with z | z
        · exact absurd (i4 b (Nat.zero_le _) z) h
        · omega
      subst eb
      obtain ⟨x, y, r, hw⟩ : ∃ x y r, wayF c st g b = x :: y :: r := by
        have z := way_len c st g b
        match wayF c st g b, z with
        | x :: y :: r, _ => exact ⟨x, y, r, rfl⟩
      have wl := way_len c st g b
      rw [hw] at e1 k h wl ⊢
      refine ifF (decide_eq_false h) ⟨_, rfl, pl, _, rfl, e1, by rw [wl]; omega, _, rfl, _, _, rfl, rfl, _, _, rfl, rfl, ⟨by decide, by decide⟩, ?_⟩
      have ix1 : ixN ((x :: y :: r).map V.int).length 1 = some 1 := by
        rw [List.length_map]
        unfold ixN
        rw [if_pos (by omega), if_pos (by rw [List.length_cons, List.length_cons]; omega)]
        rfl
      have fin : ∀ z : Int, z = (if y < x then y + (lenF (x :: y :: r) - e) / 2 else y + -((lenF (x :: y :: r) - e) / 2)) → Q (.ref pl) (upd H1 pl (.lst (((x :: y :: r).map V.int).set 1 (.int z)))) := by
        rintro z rfl
        refine k pl _ (fun q o hq => ?_) n1 ?_
        · rw [upd_ne (ne_of_none hq n1)]
          exact s1 _ _ hq
        · rw [upd_same]
          rfl
      refine ⟨_, rfl, pl, _, 1, _, rfl, rfl, e1, rfl, ?_⟩
      refine ⟨_, rfl, pl, _, _, _, rfl, rfl, SqL.of e1, at_of (j := 1) rfl rfl, _, rfl, pl, _, _, _, rfl, rfl, SqL.of e1, at_of (j := 0) rfl rfl, _, _, rfl, rfl, _, rfl, ?_⟩
      by_cases h2 : y < x
      · exact ifT (decide_eq_true h2) ⟨_, rfl, _, _, rfl, rfl, pl, _, 1, 1, rfl, rfl, e1, ix1, _, rfl, fin _ (by rw [if_pos h2])⟩
      · exact ifF (decide_eq_false h2) ⟨_, rfl, _, rfl, _, _, rfl, rfl, pl, _, 1, 1, rfl, rfl, e1, ix1, _, rfl, fin _ (by rw [if_neg h2])⟩
abbrev s_steps_into_range : Stmt := top 51
abbrev n_steps_into_range : List Str := ["chairs", "low", "high", "steps"]
theorem sc_steps_into_range : FnScope n_steps_into_range ["chairs", "low", "high"] (defScope s_steps_into_range) := ⟨rfl, rfl, rfl, by decide +kernel, rfl, by decide +kernel, by decide +kernel⟩
theorem ok_steps_into_range {f : Addr} {fd : FuncData} (F : Fun K "steps_into_range" "steps_into_range" s_steps_into_range f fd)  : FnOk P w K mg base CX0 1 f fd ["chairs", "low", "high"] spInto := by
  refine F.ok sc_steps_into_range (fun vs H Q E h => ?_) (fun cdv A outer s H vs Q E hr h => ?_)
  · obtain ⟨c, lo, hi, rfl, _⟩ := h
    rfl
  · obtain ⟨c, lo, hi, rfl, k⟩ := h
    refine ⟨_, pss_cons (ps_set (i := 3) sc_steps_into_range.nd rfl (.inl rfl) (pe_lst pa_nil))
      (C8.pss_cut (ps_if (pt_cmpR op_gt (pv 1) pe_int (nomark _))
        (pss_one (ps_expr (pe_bm PySem.F.plainAttrs_list PySem.F.slot_list_append PySem.F.type_list_append mt_append (pv 3) (pa_cons (pe_tup (pa_cons pe_str (pa_cons (pv 1) pa_nil))) pa_nil)))) pss_nil)
      (pss_cons (ps_if (pt_cmpR op_lt (pv 2) (pv 0) (nomark _))
        (pss_one (ps_expr (pe_bm PySem.F.plainAttrs_list PySem.F.slot_list_append PySem.F.type_list_append mt_append (pv 3) (pa_cons (pe_tup (pa_cons pe_str (pa_cons (pe_op op_sub (pv 0) (pv 2)) pa_nil))) pa_nil)))) pss_nil)
      (pss_one (ps_ret (pv 3))))), ?_⟩
    refine ⟨by show 0 ≤ sizeLine; decide, fun r0 h0 => ?_⟩
    have m1 : ∀ {Hx : Hp} {xs : List V}, Hx r0 = some (.lst xs) → ∀ ys : List V, ∀ t us, Hx t = some (.tup us) → (upd Hx r0 (.lst ys)) t = some (.tup us) := fun h ys t us e => by
      rw [upd_ne (ne_of e h fun z => nomatch z)]
      exact e
    refine ⟨fun σ H' => ∃ ws, σ = [some (.int c), some (.int lo), some (.int hi), some (.ref r0)] ∧ Same H H' ∧ H' r0 = some (.lst ws) ∧ Steps H' ws (if lo > 0 then [Stp.meet true lo] else []) ∧ ws.length ≤ 1, ?_, ?_⟩
    · refine ⟨_, rfl, _, _, rfl, rfl, _, rfl, ?_⟩
      by_cases h : 0 < lo
      · refine ifT (decide_eq_true h) ⟨_, rfl, .inl ⟨rfl, _, SqL.of upd_same⟩, _, rfl, by show 2 ≤ sizeLine; decide, fun t1 ht1 => ⟨r0, _, _, rfl, rfl, (same_upd ht1) _ _ upd_same, by show 0 < sizeLine; decide, ?_⟩⟩
        have nt : t1 ≠ r0 := fun z => by
          rw [z, upd_same] at ht1
          cases ht1
        refine ⟨[.ref t1], rfl, ?_, upd_same, ?_, Nat.le_refl 1⟩
        · exact same_new h0 ((same_upd h0).trans (same_upd ht1))
        · rw [if_pos h]
          refine .cons ⟨t1, rfl, ?_⟩ .nil
          rw [upd_ne nt, upd_same]
          rfl
      · refine ifF (decide_eq_false h) ⟨[], rfl, same_upd h0, upd_same, ?_, Nat.zero_le 1⟩
        rw [if_neg h]
        exact .nil
    · rintro σ H1 ⟨ws, rfl, s1, e1, g1, l1⟩
      refine ⟨_, rfl, _, rfl, _, _, rfl, rfl, _, rfl, ?_⟩
      by_cases h : hi < c
      · refine ifT (decide_eq_true h) ⟨_, rfl, .inl ⟨rfl, _, SqL.of e1⟩, _, rfl, _, rfl, _, _, rfl, rfl, by show 2 ≤ sizeLine; decide, fun t1 ht1 => ⟨r0, _, _, rfl, rfl, (same_upd ht1) _ _ e1, small1000 (by omega), ?_⟩⟩
        have nt : t1 ≠ r0 := (ne_of_none e1 ht1).symm
        refine ⟨_, rfl, k r0 _ _ (same_new h0 (s1.trans (same_upd ht1))) h0 upd_same ?_⟩
        have a1 : Steps (upd (upd H1 t1 (.tup [.str "blue", .int (c - hi)])) r0 (.lst (ws ++ [.ref t1]))) ws _ := upd_steps ((same_upd ht1) _ _ e1) (g1.same (same_upd ht1))
        have a2 : Steps (upd (upd H1 t1 (.tup [.str "blue", .int (c - hi)])) r0 (.lst (ws ++ [.ref t1]))) [.ref t1] [.meet false (c - hi)] := .cons ⟨t1, rfl, by rw [upd_ne nt, upd_same]; rfl⟩ .nil
        have e : intoF c lo hi = (if lo > 0 then [Stp.meet true lo] else []) ++ [.meet false (c - hi)] := by
          unfold intoF
          rw [if_pos h]
        rw [e]
        exact a1.append a2
      · refine ifF (decide_eq_false h) ⟨_, rfl, k r0 ws H1 s1 h0 e1 ?_⟩
        have e : intoF c lo hi = (if lo > 0 then [Stp.meet true lo] else []) := by
          unfold intoF
          rw [if_neg h, List.append_nil]
        rw [e]
        exact g1
abbrev s_steps_through : Stmt := top 52
abbrev n_steps_through : List Str := ["chairs", "points", "steps", "is_red", "point"]
theorem sc_steps_through : FnScope n_steps_through ["chairs", "points"] (defScope s_steps_through) := ⟨rfl, rfl, rfl, by decide +kernel, rfl, by decide +kernel, by decide +kernel⟩
theorem ok_steps_through {f : Addr} {fd : FuncData} (F : Fun K "steps_through" "steps_through" s_steps_through f fd)  : FnOk P w K mg base CX0 1 f fd ["chairs", "points"] spThru := by
  refine F.ok sc_steps_through (fun vs H Q E h => ?_) (fun cdv A outer s H vs Q E hr h => ?_)
  · obtain ⟨c, l, ps, rfl, _⟩ := h
    rfl
  · obtain ⟨c, l, ps, rfl, hl, p2, p100, k⟩ := h
    refine ⟨_, pss_cons (ps_set (i := 2) sc_steps_through.nd rfl (.inl rfl) (pe_lst pa_nil))
      (pss_cons (ps_set (i := 3) sc_steps_through.nd rfl (.inl rfl) (pe_cmpR op_gt (pe_ix ix_list (pv 1) pe_int (fun _ _ => rfl)) (pe_ix ix_list (pv 1) pe_int (fun _ _ => rfl)) (nomark _)))
      (pss_cons (ps_for PassesOwn.never rfl (pi_list (pv 1)) (pg_name (i := 4) sc_steps_through.nd rfl (.inl rfl))
        (pss_cons (ps_expr (pe_bm PySem.F.plainAttrs_list PySem.F.slot_list_append PySem.F.type_list_append mt_append (pv 2) (pa_cons (pe_ifExp (pt_val (pv 3)) (pe_tup (pa_cons pe_str (pa_cons (pv 4) pa_nil))) (pe_tup (pa_cons pe_str (pa_cons (pe_op op_sub (pv 0) (pv 4)) pa_nil)))) pa_nil)))
        (pss_one (ps_set (i := 3) sc_steps_through.nd rfl (.inl rfl) (pe_not (pv 3))))))
      (pss_one (ps_ret (pv 2))))), ?_⟩
    obtain ⟨x, y, r, rfl⟩ : ∃ x y r, ps = x :: y :: r := by
      match ps, p2 with
      | x :: y :: r, _ => exact ⟨x, y, r, rfl⟩
    refine ⟨by show 0 ≤ sizeLine; decide, fun r0 h0 => ?_⟩
    have nlr : l ≠ r0 := ne_of_none hl h0
    have hl1 := (same_upd (o := .lst []) h0) _ _ hl
    refine ⟨_, rfl, l, _, _, _, rfl, rfl, SqL.of hl1, at_of (j := 0) rfl rfl, _, rfl, l, _, _, _, rfl, rfl, SqL.of hl1, at_of (j := 1) rfl rfl, _, _, rfl, rfl, ?_⟩
    have er : decide ((x :: y :: r).getD 0 0 > (x :: y :: r).getD 1 0) = decide (y < x) := rfl
    rw [er] at k
    dsimp only
    generalize decide (y < x) = rr at *
    generalize x :: y :: r = ps at *
    refine ⟨_, rfl, l, rfl, ⟨_, SqL.of hl1⟩, for_list (K := K) (a := l) (xs := ps.map V.int) (fun i σ H' => ∃ ws q, σ = [some (.int c), some (.ref l), some (.ref r0), some (.bl (if i % 2 = 0 then rr else !rr)), q] ∧ Same H H' ∧ H' r0 = some (.lst ws) ∧ Steps H' ws (thruF c rr (ps.take i)) ∧ ws.length ≤ i)
      ⟨[], none, rfl, same_upd h0, upd_same, .nil, Nat.le_refl 0⟩ (fun i σ H' _ ⟨_, _, _, s1, _⟩ => SqL.of (s1 _ _ hl)) ?_ ?_⟩
    · rintro i v σ H1 hi ⟨ws, q, rfl, s1, e1, g1, l1⟩
      rw [List.getElem?_map] at hi
      obtain ⟨p, hp, rfl⟩ : ∃ p, ps[i]? = some p ∧ v = V.int p := by
        cases e : ps[i]? with
        | none =>
          rw [e] at hi
          cases hi
        | some p =>
          rw [e] at hi
          exact ⟨p, rfl, (Option.some.inj hi).symm⟩
      have hil : i < ps.length := (List.getElem?_eq_some_iff.mp hp).1
      have ek : thruF c rr (ps.take (i + 1)) = thruF c rr (ps.take i) ++ [if (if i % 2 = 0 then rr else !rr) = true then .meet true p else .meet false (c - p)] := by
        rw [take_more hp, thru_snoc, List.length_take, Nat.min_eq_left (by omega)]
      have eb : (!(if i % 2 = 0 then rr else !rr)) = (if (i + 1) % 2 = 0 then rr else !rr) := by
        by_cases z : i % 2 = 0
        · rw [if_pos z, if_neg (by omega)]
        · rw [if_neg z, if_pos (by omega), Bool.not_not]
      refine ⟨_, rfl, .inl ⟨rfl, _, SqL.of e1⟩, _, rfl, _, rfl, ?_⟩
      have fin : ∀ (st : Stp) (t1 : Addr), H1 t1 = none → (if (if i % 2 = 0 then rr else !rr) = true then Stp.meet true p else .meet false (c - p)) = st → ∃ (ws' : List V) (q' : Option V), ([some (V.int c), some (V.ref l), some (V.ref r0), some (V.bl (!(if i % 2 = 0 then rr else !rr))), some (V.int p)] : L2.St) = [some (V.int c), some (V.ref l), some (V.ref r0), some (V.bl (if (i + 1) % 2 = 0 then rr else !rr)), q'] ∧ Same H (upd (upd H1 t1 (.tup (stpV st))) r0 (.lst (ws ++ [.ref t1]))) ∧ (upd (upd H1 t1 (.tup (stpV st))) r0 (.lst (ws ++ [.ref t1]))) r0 = some (.lst ws') ∧ Steps (upd (upd H1 t1 (.tup (stpV st))) r0 (.lst (ws ++ [.ref t1]))) ws' (thruF c rr (ps.take (i + 1))) ∧ ws'.length ≤ i + 1 := by
        intro st t1 ht1 es
        have nt : t1 ≠ r0 := (ne_of_none e1 ht1).symm
        refine ⟨_, _, by rw [eb], same_new h0 (s1.trans (same_upd ht1)), upd_same, ?_, by rw [List.length_append]; exact Nat.succ_le_succ l1⟩
        rw [ek, es]
        exact (upd_steps ((same_upd ht1) _ _ e1) (g1.same (same_upd ht1))).append (.cons ⟨t1, rfl, by rw [upd_ne nt, upd_same]⟩ .nil)
      cases hb : (if i % 2 = 0 then rr else !rr) with
      | true =>
        rw [hb] at fin
        refine iteT ⟨_, rfl, by show 2 ≤ sizeLine; decide, fun t1 ht1 => ⟨r0, _, _, rfl, rfl, (same_upd ht1) _ _ e1, small1000 (by omega), ?_⟩⟩
        exact ⟨_, rfl, _, rfl, fin (.meet true p) t1 ht1 rfl⟩
      | false =>
        rw [hb] at fin
        refine iteF ⟨_, rfl, _, rfl, _, _, rfl, rfl, by show 2 ≤ sizeLine; decide, fun t1 ht1 => ⟨r0, _, _, rfl, rfl, (same_upd ht1) _ _ e1, small1000 (by omega), ?_⟩⟩
        exact ⟨_, rfl, _, rfl, fin (.meet false (c - p)) t1 ht1 rfl⟩
    · rintro σ H1 ⟨ws, q, rfl, s1, e1, g1, l1⟩
      rw [List.length_map, List.take_length] at g1
      exact ⟨_, rfl, k r0 ws H1 s1 h0 e1 g1⟩
abbrev s_simple_plan : Stmt := top 50
abbrev n_simple_plan : List Str := ["plan", "chairs", "low", "high", "extra", "goal", "turned", "steps"]
theorem sc_simple_plan : FnScope n_simple_plan ["plan", "chairs"] (defScope s_simple_plan) := ⟨rfl, rfl, rfl, by decide +kernel, rfl, by decide +kernel, by decide +kernel⟩
theorem ok_simple_plan {f fI f_summary f_steps_into_range f_steps_through f_turning_points : Addr} {fd : FuncData} (F : Fun K "simple_plan" "simple_plan" s_simple_plan f fd) (T : Txt K mg C TU pS gS mc) (M : Mk K C fI) (GIV : FnR P w K mg base CX0 3 fI (spInitV K C)) (D_summary : Dn P w K mg base 4 "summary" f_summary (spSummary C)) (D_steps_into_range : Dn P w K mg base 1 "steps_into_range" f_steps_into_range spInto) (D_steps_through : Dn P w K mg base 1 "steps_through" f_steps_through spThru) (D_turning_points : Dn P w K mg base 3 "turning_points" f_turning_points spPts) : FnOk P w K mg base CX0 5 f fd ["plan", "chairs"] (spSimple K C) := by
  refine F.ok sc_simple_plan (fun vs H Q E h => ?_) (fun cdv A outer s H vs Q E hr h => ?_)
  · obtain ⟨p, ss, c, rfl, _⟩ := h
    rfl
  · obtain ⟨p, ss, c, rfl, hp, c1, hs, hl, fit, k⟩ := h
    refine ⟨_, pss_cons (ps_asg (pe_callR D_summary.ok (hr.mono (by decide)) rfl D_summary.at_ D_summary.kp pass0 (pa_cons (pv 0) (pa_cons (pv 1) pa_nil))) (pg_tup rfl (pgs_cons (pg_name (i := 2) sc_simple_plan.nd rfl (.inl rfl)) (pgs_cons (pg_name (i := 3) sc_simple_plan.nd rfl (.inl rfl)) (pgs_cons (pg_name (i := 4) sc_simple_plan.nd rfl (.inl rfl)) (pgs_cons (pg_name (i := 5) sc_simple_plan.nd rfl (.inl rfl)) (pgs_cons (pg_name (i := 6) sc_simple_plan.nd rfl (.inl rfl)) pgs_nil)))))))
      (C8.pss_cut (ps_if (pt_cmpR op_eq (pv 4) pe_int (nomark _))
        (pss_one (ps_set (i := 7) sc_simple_plan.nd rfl (.inl rfl) (pe_callR D_steps_into_range.ok (hr.mono (by decide)) rfl D_steps_into_range.at_ D_steps_into_range.kp pass0 (pa_cons (pv 1) (pa_cons (pv 2) (pa_cons (pv 3) pa_nil))))))
        (pss_one (ps_set (i := 7) sc_simple_plan.nd rfl (.inl rfl) (pe_callR D_steps_through.ok (hr.mono (by decide)) rfl D_steps_through.at_ D_steps_through.kp pass0 (pa_cons (pv 1) (pa_cons (pe_callR D_turning_points.ok (hr.mono (by decide)) rfl D_turning_points.at_ D_turning_points.kp pass0 (pa_cons (pv 1) (pa_cons (pv 2) (pa_cons (pv 5) (pa_cons (pv 4) pa_nil))))) pa_nil))))))
      (C8.pss_cut (ps_if (pt_val (pv 6))
        (pss_one (ps_expr (pe_bm PySem.F.plainAttrs_list PySem.F.slot_list_append PySem.F.type_list_append mt_append (pv 7) (pa_cons (pe_glob (v := .ref TU) rfl T.gT rfl) pa_nil)))) pss_nil)
      (pss_one (ps_ret (pe_makeS M GIV (hr.mono (by decide)) rfl T.gP pass0 (pv 7)))))), ?_⟩
    have c0 := fit.c0
    refine ⟨_, rfl, _, rfl, p, ss, c, rfl, hp, c0, c1, hs, hl, fun q H1 s1 e1 => ⟨q, _, rfl, SqT.of e1, rfl, _, _, rfl, _, _, rfl, _, _, rfl, _, _, rfl, _, _, rfl, rfl, ?_⟩⟩
    have es : simpleF c ss = simpleM c (smEnd (smSteps c ss)) := rfl
    rw [es] at k
    clear es
    generalize smEnd (smSteps c ss) = m at *
    obtain ⟨bs, hbs⟩ : ∃ bs, bs = bareM c m := ⟨_, rfl⟩
    have es : simpleM c m = bs ++ (if m.turned = true then [.turn] else []) := by
      rw [hbs]
      rfl
    rw [es] at k
    have bok : (∀ s ∈ bs, s.ok c) ∧ bs.length ≤ 53 := by
      rw [hbs]
      exact bare_ok fit
    unfold bareM at hbs
    refine ⟨fun σ H' => ∃ (ws : List V) (sp : Addr), σ = [some (.ref p), some (.int c), some (.int m.low), some (.int m.high), some (.int m.extra), some (goalV m.goal), some (.bl m.turned), some (.ref sp)] ∧ Same H H' ∧ H sp = none ∧ H' sp = some (.lst ws) ∧ Steps H' ws bs, ?_, ?_⟩
    · refine ⟨_, rfl, rfl, _, rfl, ?_⟩
      by_cases h : m.extra = 0
      · rw [if_pos h] at hbs
        subst hbs
        rw [h]
        refine ifT (decide_eq_true rfl) ⟨_, rfl, _, rfl, _, rfl, c, m.low, m.high, rfl, fun r ws H2 s2 n2 e2 g2 => ?_⟩
        exact ⟨ws, r, rfl, s1.trans s2, same_none s1 n2, e2, g2⟩
      · rw [if_neg h] at hbs
        obtain ⟨z, ez, z0, z1, b50, hb⟩ := fit.few h
        refine ifF (decide_eq_false fun z => h (by injection z)) ⟨_, rfl, _, rfl, _, rfl, _, rfl, _, rfl, c, m.low, z, m.extra, by rw [ez]; rfl, ⟨_, b50, hb⟩, fun l H2 s2 n2 e2 => ?_⟩
        have pl : (ptsF c m.low z m.extra).length = fewB c m.low z m.extra 60 0 + 2 := by
          unfold ptsF
          rw [near_len, way_len]
        refine ⟨c, l, _, rfl, e2, by rw [pl]; omega, by rw [pl]; omega, fun r ws H3 s3 n3 e3 g3 => ?_⟩
        refine ⟨ws, r, rfl, (s1.trans s2).trans s3, same_none (s1.trans s2) n3, e3, ?_⟩
        rw [hbs, ez]
        exact g3
    rintro σ H2 ⟨ws, sp, rfl, s2, n2, e2, g2⟩
    refine ⟨fun σ H' => ∃ (ws : List V), σ = [some (.ref p), some (.int c), some (.int m.low), some (.int m.high), some (.int m.extra), some (goalV m.goal), some (.bl m.turned), some (.ref sp)] ∧ Same H H' ∧ H' sp = some (.lst ws) ∧ StepsV K H' ws (bs ++ (if m.turned = true then [.turn] else [])), ?_, ?_⟩
    · refine ⟨_, rfl, _, rfl, ?_⟩
      cases ht : m.turned with
      | true =>
        refine iteT ⟨_, rfl, .inl ⟨rfl, _, SqL.of e2⟩, sp, _, _, rfl, rfl, e2, small1000 (by rw [g2.length]; omega), ?_⟩
        refine ⟨_, rfl, same_new n2 s2, upd_same, ?_⟩
        exact (StepsV.of (upd_steps e2 g2)).append (.cons (turn_stepV T _) .nil)
      | false =>
        refine iteF ⟨ws, rfl, s2, e2, ?_⟩
        rw [if_neg Bool.false_ne_true, List.append_nil]
        exact .of g2
    rintro σ H3 ⟨ws2, rfl, s3, e3, g3⟩
    have ok3 : ∀ s ∈ bs ++ (if m.turned = true then [Stp.turn] else []), s.ok 1000000000000000000 := fun s hs3 => by
      rcases List.mem_append.mp hs3 with z | z
      · exact (bok.1 s z).mono c1
      · split at z
        · rw [(List.mem_singleton.mp z)]
          trivial
        · cases z
    have len3 : (bs ++ (if m.turned = true then [Stp.turn] else [])).length ≤ 60 := by
      rw [List.length_append]
      split
      · show bs.length + 1 ≤ 60
        omega
      · show bs.length + 0 ≤ 60
        omega
    generalize bs ++ (if m.turned = true then [Stp.turn] else []) = sx at *
    refine ⟨_, rfl, sp, _, rfl, .inr (SqL.of e3), fun q dq hq hdq hne => ?_⟩
    have s4 : Same H3 (upd (upd H3 dq (.own q)) q (.ins C dq [])) := fun b o e => by
      rw [upd_ne (ne_of_none e hq), upd_ne (ne_of_none e hdq)]
      exact e
    refine ⟨q, dq, ws2, sx, rfl, upd_same, g3.same s4, len3, ok3, fun H5 tq b3 b4 b5 => ⟨rfl, ?_⟩⟩
    have s5 : Same H3 H5 := fun b o e => b3 _ _ (ne_of_none e hq) (s4 _ _ e)
    exact k q H5 (s3.trans s5) ⟨dq, tq, _, b4, b5, g3.same s5⟩
end
end Cc

/-! The long run: what each round carries from the third on; more chairs; numbers of chairs. -/
namespace Cc
open PySem PySem.Spec PyProof.Rows L2
/-- what each round carries in the long run -/
def setF (c : Int) (ss : List Stp) : Int := (roundsF c ss 3 (0, 0)).2 - (roundsF c ss 2 (0, 0)).2
/-- the same by what a round does to all starts -/
def setG (c : Int) (m : Sm) : Int := match m.goal with
  | none => if m.turned = true then (if 2 * m.high < c then c - 2 * m.high else if c < 2 * m.low then 2 * m.low - c else 0) else 0
  | some g => distF m.low m.high (if m.turned = true then c - g else g) + m.extra
theorem third_round {c y : Int} {ss : List Stp} (hs : ∀ s ∈ ss, s.ok c) (y0 : 0 ≤ y) (y1 : y ≤ c) :
    (stepsF c ss ((stepsF c ss ((stepsF c ss (y, 0)).1, 0)).1, 0)).2 = setG c (smSteps c ss) := by
  obtain ⟨ok, _, p1⟩ := smSteps_says y0 y1 ss hs
  obtain ⟨a0, a1, _⟩ := stepsF_in (t := 0) hs y0 y1 (Int.le_refl 0)
  obtain ⟨_, _, p2⟩ := smSteps_says a0 a1 ss hs
  obtain ⟨b0, b1, _⟩ := stepsF_in (t := 0) hs a0 a1 (Int.le_refl 0)
  obtain ⟨_, q3, _⟩ := smSteps_says b0 b1 ss hs
  generalize (stepsF c ss ((stepsF c ss ((stepsF c ss (y, 0)).1, 0)).1, 0)).2 = t3 at *
  generalize (stepsF c ss ((stepsF c ss (y, 0)).1, 0)).1 = x2 at *
  generalize (stepsF c ss (y, 0)).1 = x1 at *
  obtain ⟨l0, lh, h1, hg, he⟩ := ok
  generalize smSteps c ss = m at *
  obtain ⟨low, high, extra, goal, turned⟩ := m
  simp only at p1 p2 q3 l0 lh h1 hg he
  cases goal with
  | none =>
    have e0 := he rfl
    subst e0
    cases turned
    · simp [placeF, sideF, clampF, distF, setG] at p1 p2 q3 ⊢
      omega
    · simp [placeF, sideF, clampF, distF, setG] at p1 p2 q3 ⊢
      omega
  | some g =>
    cases turned
    · simp [placeF, sideF, setG] at p1 p2 q3 ⊢
      rw [q3, p2]
    · simp [placeF, sideF, setG] at p1 p2 q3 ⊢
      have e : x2 = c - g := by omega
      rw [q3, e]
theorem rounds_two (c : Int) (ss : List Stp) (y : Int) : (roundsF c ss 2 (y, 0)).1 = (stepsF c ss ((stepsF c ss (y, 0)).1, 0)).1 := stepsF_fst c ss (stepsF c ss (y, 0)).1 _ _
/-- every round from the third on carries as many -/
theorem round_const {c r : Int} {ss : List Stp} (hs : ∀ s ∈ ss, s.ok c) (r0 : 0 ≤ r) (r1 : r ≤ c) (n : Nat) : (stepsF c ss ((roundsF c ss (n + 2) (r, 0)).1, 0)).2 = setG c (smSteps c ss) := by
  obtain ⟨a0, a1, _⟩ := roundsF_in (n := n) (t := 0) hs r0 r1 (Int.le_refl 0)
  have e : (roundsF c ss (n + 2) (r, 0)).1 = (roundsF c ss 2 ((roundsF c ss n (r, 0)).1, 0)).1 := by
    rw [roundsF_plus, roundsF_sum c ss 2 (roundsF c ss n (r, 0)).1 (roundsF c ss n (r, 0)).2]
  rw [e, rounds_two, third_round hs a0 a1]
theorem setF_is {c : Int} {ss : List Stp} (hs : ∀ s ∈ ss, s.ok c) (c0 : 0 ≤ c) : setF c ss = setG c (smSteps c ss) := by
  unfold setF
  rw [roundsF_succ c ss 2, stepsF_add]
  have h := round_const hs (Int.le_refl 0) c0 0
  simp only [Nat.zero_add] at h
  rw [h]
  show (roundsF c ss 2 (0, 0)).2 + setG c (smSteps c ss) - (roundsF c ss 2 (0, 0)).2 = _
  omega
theorem round_set {c r : Int} {ss : List Stp} (hs : ∀ s ∈ ss, s.ok c) (c0 : 0 ≤ c) (r0 : 0 ≤ r) (r1 : r ≤ c) (n : Nat) : (stepsF c ss ((roundsF c ss (n + 2) (r, 0)).1, 0)).2 = setF c ss := by
  rw [setF_is hs c0, round_const hs r0 r1]
theorem rounds_lin {c r : Int} {ss : List Stp} (hs : ∀ s ∈ ss, s.ok c) (c0 : 0 ≤ c) (r0 : 0 ≤ r) (r1 : r ≤ c) : ∀ n : Nat, (roundsF c ss (n + 2) (r, 0)).2 = (roundsF c ss 2 (r, 0)).2 + n * setF c ss
  | 0 => by simp
  | n + 1 => by
    rw [show n + 1 + 2 = (n + 2) + 1 by omega, roundsF_succ, stepsF_add, round_set hs c0 r0 r1 n]
    show (roundsF c ss (n + 2) (r, 0)).2 + setF c ss = _
    rw [rounds_lin hs c0 r0 r1 n, Int.natCast_succ, Int.add_mul, Int.one_mul]
    omega
theorem setF_nonneg {c : Int} {ss : List Stp} (hs : ∀ s ∈ ss, s.ok c) (c0 : 0 ≤ c) : 0 ≤ setF c ss := by
  obtain ⟨a0, a1, _⟩ := roundsF_in (n := 2) (t := 0) hs (Int.le_refl 0) c0 (Int.le_refl 0)
  have h := round_set hs c0 (Int.le_refl 0) c0 0
  rw [← h]
  exact (stepsF_in (t := 0) hs a0 a1 (Int.le_refl 0)).2.2
/-! ### one chair more, two more: never less saved before -/
def Mid (x y z : Int × Int) : Prop := 2 * z.2 + ab (x.1 + y.1 - 2 * z.1) ≤ x.2 + y.2
theorem mid_step {c : Int} {s : Stp} {x y z : Int × Int} (h : Mid x y z) :
    Mid ((stepF c s x.1).1, x.2 + (stepF c s x.1).2) ((stepF (c + 2) s y.1).1, y.2 + (stepF (c + 2) s y.1).2) ((stepF (c + 1) s z.1).1, z.2 + (stepF (c + 1) s z.1).2) := by
  obtain ⟨x1, x2⟩ := x
  obtain ⟨y1, y2⟩ := y
  obtain ⟨z1, z2⟩ := z
  unfold Mid at *
  cases s with
  | turn =>
    simp only [stepF, ab] at *
    omega
  | meet b n =>
    cases b <;> simp only [stepF, ab, mx] at * <;> omega
theorem mid_steps {c : Int} : ∀ (ss : List Stp) (x y z : Int × Int), Mid x y z → Mid (stepsF c ss x) (stepsF (c + 2) ss y) (stepsF (c + 1) ss z)
  | [], _, _, _, h => h
  | s :: ss, x, y, z, h => mid_steps ss _ _ _ (mid_step h)
theorem mid_rounds {c : Int} (ss : List Stp) : ∀ (n : Nat) (x y z : Int × Int), Mid x y z → Mid (roundsF c ss n x) (roundsF (c + 2) ss n y) (roundsF (c + 1) ss n z)
  | 0, _, _, _, h => h
  | n + 1, x, y, z, h => mid_rounds ss n _ _ _ (mid_steps ss x y z h)
theorem lin_ge {N D : Int} (h : ∀ n : Nat, 0 ≤ N + n * D) : 0 ≤ D := by
  by_cases q : 0 ≤ D
  · exact q
  · exfalso
    have h1 := h (N.toNat + 1)
    have h2 : ((N.toNat + 1 : Nat) : Int) * D ≤ ((N.toNat + 1 : Nat) : Int) * (-1) := Int.mul_le_mul_of_nonneg_left (by omega) (by omega)
    omega
theorem oks_mono {c d : Int} {ss : List Stp} (hs : ∀ s ∈ ss, s.ok c) (h : c ≤ d) : ∀ s ∈ ss, s.ok d := fun s m => (hs s m).mono h
theorem set_convex {c : Int} {ss : List Stp} (hs : ∀ s ∈ ss, s.ok c) (c0 : 0 ≤ c) : 2 * setF (c + 1) ss ≤ setF c ss + setF (c + 2) ss := by
  have h1 := oks_mono hs (d := c + 1) (by omega)
  have h2 := oks_mono hs (d := c + 2) (by omega)
  have z : 0 ≤ setF c ss + setF (c + 2) ss - 2 * setF (c + 1) ss := lin_ge (N := (roundsF c ss 2 (0, 0)).2 + (roundsF (c + 2) ss 2 (0, 0)).2 - 2 * (roundsF (c + 1) ss 2 (0, 0)).2) fun n => by
    have m := mid_rounds (c := c) ss (n + 2) (0, 0) (0, 0) (0, 0) (by unfold Mid ab; decide)
    unfold Mid at m
    rw [rounds_lin hs c0 (Int.le_refl 0) c0, rounds_lin h1 (by omega) (Int.le_refl 0) (by omega), rounds_lin h2 (by omega) (Int.le_refl 0) (by omega)] at m
    have a : ∀ i : Int, 0 ≤ ab i := fun i => by unfold ab; omega
    have a1 := a ((roundsF c ss (n + 2) (0, 0)).1 + (roundsF (c + 2) ss (n + 2) (0, 0)).1 - 2 * (roundsF (c + 1) ss (n + 2) (0, 0)).1)
    have e : (n : Int) * (setF c ss + setF (c + 2) ss - 2 * setF (c + 1) ss) = n * setF c ss + n * setF (c + 2) ss - 2 * (n * setF (c + 1) ss) := by
      rw [Int.mul_sub, Int.mul_add, Int.mul_left_comm]
    rw [e]
    omega
  omega
/-! ### rooms as such -/
def roomsF : Bool → List Stp → List (Option Bool)
  | _, [] => []
  | t, .turn :: ss => none :: roomsF (!t) ss
  | t, .meet b _ :: ss => some (b != t) :: roomsF t ss
/-- the greatest needs in the one and in the other room -/
def mostF : Bool → List Stp → Int × Int → Int × Int
  | _, [], x => x
  | t, .turn :: ss, x => mostF (!t) ss x
  | t, .meet b n :: ss, x => mostF t ss (if (b != t) = true then (mx x.1 n, x.2) else (x.1, mx x.2 n))
def spareF (ss : List Stp) : Int := (mostF false (ss ++ ss) (0, 0)).1 + (mostF false (ss ++ ss) (0, 0)).2
def FitF (X Y : Int) : Bool → List Stp → Prop
  | _, [] => True
  | t, .turn :: ss => FitF X Y (!t) ss
  | t, .meet b n :: ss => (if (b != t) = true then n ≤ X else n ≤ Y) ∧ FitF X Y t ss
theorem most_fit {X Y : Int} : ∀ (ss : List Stp) (t : Bool) (x : Int × Int), ((mostF t ss x).1 ≤ X ∧ (mostF t ss x).2 ≤ Y) ↔ (x.1 ≤ X ∧ x.2 ≤ Y ∧ FitF X Y t ss)
  | [], t, x => by simp [mostF, FitF]
  | .turn :: ss, t, x => most_fit ss (!t) x
  | .meet b n :: ss, t, x => by
    show ((mostF t ss _).1 ≤ X ∧ (mostF t ss _).2 ≤ Y) ↔ _
    rw [most_fit ss t]
    cases hb : (b != t)
    · simp only [FitF, hb, mx_eq]
      constructor
      · rintro ⟨h1, h2, h3⟩
        exact ⟨h1, by simp at h2 ⊢; omega, by simp at h2 ⊢; omega, h3⟩
      · rintro ⟨h1, h2, h3, h4⟩
        exact ⟨h1, by simp at h3 ⊢; omega, h4⟩
    · simp only [FitF, hb, mx_eq]
      constructor
      · rintro ⟨h1, h2, h3⟩
        exact ⟨by simp at h1 ⊢; omega, h2, by simp at h1 ⊢; omega, h3⟩
      · rintro ⟨h1, h2, h3, h4⟩
        exact ⟨by simp at h3 ⊢; omega, h2, h4⟩
def endT (t : Bool) (ss : List Stp) : Bool := ss.foldl (fun t s => match s with | .turn => !t | .meet _ _ => t) t
theorem endT_not (ss : List Stp) : ∀ t : Bool, endT (!t) ss = !(endT t ss) := by
  induction ss with
  | nil => intro t; rfl
  | cons s ss ih =>
    intro t
    cases s with
    | turn => exact ih (!t)
    | meet b n => exact ih t
theorem endT_app (t : Bool) (a b : List Stp) : endT t (a ++ b) = endT (endT t a) b := List.foldl_append ..
theorem endT_pair (t : Bool) (ss : List Stp) : endT t (ss ++ ss) = t := by
  rw [endT_app]
  have h1 := endT_not ss false
  cases t <;> cases e : endT false ss <;> simp_all
theorem fit_stay {c x : Int} : ∀ (ss : List Stp) (t : Bool) (r : Int), placeF c (sideF t) r = x → FitF x (c - x) t ss → (stepsF c ss (r, 0)).2 = 0 ∧ placeF c (sideF (endT t ss)) (stepsF c ss (r, 0)).1 = x
  | [], t, r, h, _ => ⟨rfl, h⟩
  | .turn :: ss, t, r, h, hf => by
    have := fit_stay ss (!t) (c - r) (by cases t <;> simp [placeF, sideF] at h ⊢ <;> omega) hf
    exact this
  | .meet b n :: ss, t, r, h, hf => by
    obtain ⟨h1, h2⟩ := hf
    have e : stepF c (.meet b n) r = (r, 0) := by
      cases b <;> cases t <;> simp [placeF, sideF] at h h1 <;> simp only [stepF, mx, Prod.mk.injEq] <;> omega
    have := fit_stay ss t r h h2
    show (stepsF c ss ((stepF c (.meet b n) r).1, 0 + (stepF c (.meet b n) r).2)).2 = 0 ∧ placeF c (sideF (endT t ss)) (stepsF c ss ((stepF c (.meet b n) r).1, 0 + (stepF c (.meet b n) r).2)).1 = x
    rw [e]
    exact this
theorem zero_fit {c x : Int} : ∀ (ss : List Stp) (t : Bool) (r : Int), (∀ s ∈ ss, s.ok c) → 0 ≤ r → r ≤ c → placeF c (sideF t) r = x → (stepsF c ss (r, 0)).2 = 0 → FitF x (c - x) t ss
  | [], t, r, _, _, _, _, _ => trivial
  | .turn :: ss, t, r, hs, r0, r1, h, hz => zero_fit ss (!t) (c - r) (fun s m => hs s (List.mem_cons_of_mem _ m)) (by omega) (by omega) (by cases t <;> simp [placeF, sideF] at h ⊢ <;> omega) hz
  | .meet b n :: ss, t, r, hs, r0, r1, h, hz => by
    have ho := hs _ List.mem_cons_self
    have hs' := fun s m => hs s (List.mem_cons_of_mem _ m)
    obtain ⟨a0, a1, a2, _⟩ := stepF_in ho r0 r1
    have h3 := (stepsF_in (t := 0) hs' a0 a1 (Int.le_refl 0)).2.2
    have hz' : (stepsF c ss ((stepF c (.meet b n) r).1, 0 + (stepF c (.meet b n) r).2)).2 = 0 := hz
    rw [stepsF_add] at hz'
    have z1 : (stepF c (.meet b n) r).2 = 0 := by
      simp only at hz'
      omega
    have z2 : (stepsF c ss ((stepF c (.meet b n) r).1, 0)).2 = 0 := by
      simp only at hz'
      omega
    have e : (stepF c (.meet b n) r).1 = r := by
      cases b <;> simp only [stepF, mx] at z1 ⊢ <;> omega
    rw [e] at z2
    refine ⟨?_, zero_fit ss t r hs' r0 r1 h z2⟩
    obtain ⟨n0, n1⟩ := ho
    cases b <;> cases t <;> simp [placeF, sideF] at h ⊢ <;> simp only [stepF, mx] at z1 <;> omega
theorem most_nonneg (ss : List Stp) : 0 ≤ (mostF false (ss ++ ss) (0, 0)).1 ∧ 0 ≤ (mostF false (ss ++ ss) (0, 0)).2 :=
  let ⟨h1, h2, _⟩ := (most_fit (ss ++ ss) false (0, 0)).mp ⟨Int.le_refl _, Int.le_refl _⟩
  ⟨h1, h2⟩
theorem zero_iff {c : Int} {ss : List Stp} (hs : ∀ s ∈ ss, s.ok c) (c0 : 0 ≤ c) : setF c ss = 0 ↔ spareF ss ≤ c := by
  have hp : ∀ s ∈ ss ++ ss, s.ok c := fun s h => (List.mem_append.mp h).elim (hs s) (hs s)
  obtain ⟨m1, m2⟩ := most_nonneg ss
  constructor
  · intro hz
    obtain ⟨a0, a1, _⟩ := roundsF_in (n := 2) (t := 0) hs (Int.le_refl 0) c0 (Int.le_refl 0)
    have h2 : (stepsF c (ss ++ ss) ((roundsF c ss 2 (0, 0)).1, 0)).2 = 0 := by
      rw [pair_is]
      have e := rounds_parts c ss 0 2 2
      have l1 := rounds_lin hs c0 (Int.le_refl 0) c0 2
      rw [hz] at l1
      simp only [Int.mul_zero, Int.add_zero] at l1
      have e2 := e.2
      rw [l1] at e2
      omega
    have f := zero_fit (ss ++ ss) false _ hp a0 a1 rfl h2
    have ff := (most_fit (ss ++ ss) false (0, 0)).mpr ⟨by show 0 ≤ placeF c (sideF false) (roundsF c ss 2 (0, 0)).1; simpa [placeF, sideF] using a0, by show (0 : Int) ≤ c - placeF c (sideF false) (roundsF c ss 2 (0, 0)).1; simp [placeF, sideF]; omega, f⟩
    unfold spareF
    omega
  · intro hle
    unfold spareF at hle
    have ff := (most_fit (X := (mostF false (ss ++ ss) (0, 0)).1) (Y := c - (mostF false (ss ++ ss) (0, 0)).1) (ss ++ ss) false (0, 0)).mp ⟨Int.le_refl _, by omega⟩
    generalize (mostF false (ss ++ ss) (0, 0)).1 = R at *
    obtain ⟨z1, z2⟩ := fit_stay (c := c) (ss ++ ss) false R (by simp [placeF, sideF]) ff.2.2
    rw [endT_pair] at z2
    have z3 : (stepsF c (ss ++ ss) (R, 0)).1 = R := by simpa [placeF, sideF] using z2
    have z4 : (roundsF c ss 2 (R, 0)).1 = R := by rw [← pair_is]; exact z3
    have h := round_set hs c0 m1 (by omega : R ≤ c) 0
    rw [Nat.zero_add, z4] at h
    rw [← h]
    obtain ⟨b0, b1, b2⟩ := stepsF_in (t := 0) hs m1 (by omega : R ≤ c) (Int.le_refl 0)
    have b3 := (stepsF_in (t := 0) hs b0 b1 (Int.le_refl 0)).2.2
    rw [stepsF_app, show stepsF c ss (R, 0) = ((stepsF c ss (R, 0)).1, (stepsF c ss (R, 0)).2) from rfl, stepsF_add] at z1
    simp only at z1
    omega
/-! ### needs -/
def needF : List Stp → Int
  | [] => 0
  | .turn :: ss => needF ss
  | .meet _ n :: ss => mx n (needF ss)
theorem need_ok {c : Int} : ∀ {ss : List Stp}, (∀ s ∈ ss, s.ok 1000000000000000000) → needF ss ≤ c → ∀ s ∈ ss, s.ok c
  | [], _, _, s, h => nomatch h
  | .turn :: ss, hs, hc, s, h => by
    rcases (List.mem_cons.mp h) with rfl | h
    · trivial
    · exact need_ok (fun z m => hs z (List.mem_cons_of_mem _ m)) hc s h
  | .meet b n :: ss, hs, hc, s, h => by
    have e : needF (.meet b n :: ss) = mx n (needF ss) := rfl
    rw [e, mx_eq] at hc; rcases List.mem_cons.mp h with rfl | h
    · exact ⟨(hs _ List.mem_cons_self).1, by omega⟩
    · exact need_ok (fun z m => hs z (List.mem_cons_of_mem _ m)) (by omega) s h
theorem need_le {c : Int} (c0 : 0 ≤ c) : ∀ {ss : List Stp}, (∀ s ∈ ss, s.ok c) → needF ss ≤ c
  | [], _ => c0
  | .turn :: ss, hs => need_le (ss := ss) c0 fun z m => hs z (List.mem_cons_of_mem _ m)
  | .meet b n :: ss, hs => by
    have h1 := need_le (ss := ss) c0 fun z m => hs z (List.mem_cons_of_mem _ m)
    have h2 := (hs _ List.mem_cons_self).2
    show mx n (needF ss) ≤ c
    rw [mx_eq]
    omega
theorem need_nonneg : ∀ ss : List Stp, 0 ≤ needF ss
  | [] => Int.le_refl 0
  | .turn :: ss => need_nonneg ss
  | .meet b n :: ss => by
    have h1 := need_nonneg ss
    show 0 ≤ mx n (needF ss)
    rw [mx_eq]
    omega
theorem fit_need {X Y : Int} (x0 : 0 ≤ X) (y0 : 0 ≤ Y) : ∀ (ss : List Stp) (t : Bool), FitF X Y t ss → needF ss ≤ X ∨ needF ss ≤ Y
  | [], _, _ => .inl x0
  | .turn :: ss, t, h => fit_need x0 y0 ss (!t) h
  | .meet b n :: ss, t, h => by
    have h1 := fit_need x0 y0 ss t h.2
    have h2 := h.1
    show mx n (needF ss) ≤ X ∨ mx n (needF ss) ≤ Y
    rw [mx_eq]
    cases hb : (b != t) <;> simp [hb] at h2 <;> omega
theorem need_fit : ∀ (ss : List Stp) (t : Bool) (X : Int), needF ss ≤ X → FitF X X t ss
  | [], _, _, _ => trivial
  | .turn :: ss, t, X, h => need_fit ss (!t) X h
  | .meet b n :: ss, t, X, h => by
    have e : needF (.meet b n :: ss) = mx n (needF ss) := rfl
    rw [e, mx_eq] at h
    refine ⟨?_, need_fit ss t X (by omega)⟩
    split <;> omega
theorem fit_app {X Y : Int} : ∀ (a b : List Stp) (t : Bool), FitF X Y t (a ++ b) ↔ FitF X Y t a ∧ FitF X Y (endT t a) b
  | [], b, t => by simp [FitF, endT]
  | .turn :: a, b, t => fit_app a b (!t)
  | .meet r n :: a, b, t => by
    show (_ ∧ FitF X Y t (a ++ b)) ↔ ((_ ∧ FitF X Y t a) ∧ FitF X Y (endT t a) b)
    rw [fit_app a b t, and_assoc]
theorem need_spare (ss : List Stp) : needF ss ≤ spareF ss ∧ spareF ss ≤ 2 * needF ss := by
  obtain ⟨m1, m2⟩ := most_nonneg ss
  have n0 := need_nonneg ss
  unfold spareF
  constructor
  · have f := ((most_fit (ss ++ ss) false (0, 0)).mp ⟨Int.le_refl _, Int.le_refl _⟩).2.2
    have f1 := ((fit_app ss ss false).mp f).1
    have := fit_need m1 m2 ss false f1
    omega
  · have f : FitF (needF ss) (needF ss) false (ss ++ ss) := (fit_app ss ss false).mpr ⟨need_fit ss _ _ (Int.le_refl _), need_fit ss _ _ (Int.le_refl _)⟩
    have := (most_fit (ss ++ ss) false (0, 0)).mpr ⟨n0, n0, f⟩
    omega
/-! ### what one chair more saves -/
def sparedF (c : Int) (ss : List Stp) : Int := setF c ss - setF (c + 1) ss
section
variable {ss : List Stp}
theorem spared_anti (hs : ∀ s ∈ ss, s.ok 1000000000000000000) : ∀ (k : Nat) {c : Int}, needF ss ≤ c → sparedF (c + k) ss ≤ sparedF c ss
  | 0, c, _ => by simp
  | k + 1, c, h => by
    have h1 := spared_anti hs k h
    have n0 := need_nonneg ss
    have h2 := set_convex (c := c + k) (need_ok hs (by omega)) (by omega)
    unfold sparedF at *
    rw [show c + ((k + 1 : Nat) : Int) = c + k + 1 by omega, show c + (k : Int) + 1 + 1 = c + k + 2 by omega]
    omega
theorem spared_le (hs : ∀ s ∈ ss, s.ok 1000000000000000000) {c d : Int} (h : needF ss ≤ c) (hd : c ≤ d) : sparedF d ss ≤ sparedF c ss := by
  have := spared_anti hs (d - c).toNat h
  rw [show c + ((d - c).toNat : Int) = d by omega] at this
  exact this
theorem spared_zero (hs : ∀ s ∈ ss, s.ok 1000000000000000000) {c : Int} (h : spareF ss ≤ c) : sparedF c ss = 0 := by
  have n0 := need_nonneg ss
  have n1 := (need_spare ss).1
  unfold sparedF
  rw [(zero_iff (need_ok hs (by omega)) (by omega)).mpr h, (zero_iff (need_ok hs (by omega)) (by omega)).mpr (by omega)]
  rfl
theorem spared_nonneg (hs : ∀ s ∈ ss, s.ok 1000000000000000000) {c : Int} (h : needF ss ≤ c) : 0 ≤ sparedF c ss := by
  have z := spared_le hs h (d := if c ≤ spareF ss then spareF ss else c) (by split <;> omega)
  rw [spared_zero hs (by split <;> omega)] at z
  exact z
/-! ### the best number of chairs -/
def BestF (ss : List Stp) (P A r : Int) : Prop := needF ss ≤ r ∧ r ≤ spareF ss ∧ (∀ c, needF ss ≤ c → c < r → P < A * sparedF c ss) ∧ (r < spareF ss → A * sparedF r ss ≤ P)
def priceB (ss : List Stp) (P A c : Int) : Int := P * c + A * setF c ss
theorem price_step (P A c : Int) : priceB ss P A c - priceB ss P A (c + 1) = A * sparedF c ss - P := by
  unfold priceB sparedF
  rw [Int.mul_add P c 1, Int.mul_sub]
  omega
theorem best_below {P A r : Int} (h : BestF ss P A r) : ∀ (k : Nat) (c : Int), needF ss ≤ c → c + k + 1 = r → priceB ss P A r < priceB ss P A c
  | 0, c, h0, e => by
    have := h.2.2.1 c h0 (by omega)
    have st := price_step (ss := ss) P A c
    rw [show c + 1 = r by omega] at st
    omega
  | k + 1, c, h0, e => by
    have ih := best_below h k (c + 1) (by omega) (by omega)
    have := h.2.2.1 c h0 (by omega)
    have st := price_step (ss := ss) P A c
    omega
theorem best_above (hs : ∀ s ∈ ss, s.ok 1000000000000000000) {P A r : Int} (P0 : 0 ≤ P) (A0 : 0 ≤ A) (h : BestF ss P A r) : ∀ (k : Nat), priceB ss P A r ≤ priceB ss P A (r + k)
  | 0 => by simp
  | k + 1 => by
    have ih := best_above hs P0 A0 h k
    have st := price_step (ss := ss) P A (r + k)
    have le : A * sparedF (r + k) ss ≤ P := by
      by_cases q : r < spareF ss
      · have h1 := h.2.2.2 q
        have h2 := spared_le hs h.1 (d := r + k) (by omega)
        have h3 := Int.mul_le_mul_of_nonneg_left h2 A0
        omega
      · rw [spared_zero hs (by omega), Int.mul_zero]
        exact P0
    rw [show r + ((k + 1 : Nat) : Int) = r + k + 1 by omega]
    omega
theorem best_least (hs : ∀ s ∈ ss, s.ok 1000000000000000000) {P A r c : Int} (P0 : 0 ≤ P) (A0 : 0 ≤ A) (h : BestF ss P A r) (hc : needF ss ≤ c) : priceB ss P A r ≤ priceB ss P A c ∧ (c < r → priceB ss P A r < priceB ss P A c) := by
  by_cases q : c < r
  · have := best_below h (r - c - 1).toNat c hc (by omega)
    exact ⟨by omega, fun _ => this⟩
  · have := best_above hs P0 A0 h (c - r).toNat
    rw [show r + ((c - r).toNat : Int) = c by omega] at this
    exact ⟨this, fun z => absurd z q⟩
end
end Cc

/-! max(list, default=d). -/
namespace Cc
open PySem PySem.Spec PyProof.Rows L2
def rMaxD (K : PySem.W.Frag) : List V → List V → Hp → VK → Prop := fun vs zs H Q => ∃ (a : Addr) (ns : List Int) (d : Int), vs = [.ref a] ∧ zs = [.int d] ∧ SqL K H a (ns.map V.int) ∧
  (ns = [] → Q (.int d) H) ∧ ∀ m, m ∈ ns → (∀ x ∈ ns, x ≤ m) → Q (.int m) H
theorem maxOf_is : ∀ (xs : List Int) (x : Int), PySem.W.maxOf x xs ∈ x :: xs ∧ ∀ y ∈ x :: xs, y ≤ PySem.W.maxOf x xs
  | [], x => ⟨List.mem_cons_self, fun y h => by rw [List.mem_singleton.mp h]; exact Int.le_refl _⟩
  | z :: xs, x => by
    have e : PySem.W.maxOf x (z :: xs) = PySem.W.maxOf (if decide (x < z) = true then z else x) xs := rfl
    rw [e]
    by_cases q : x < z
    · rw [if_pos (decide_eq_true q)]
      obtain ⟨h1, h2⟩ := maxOf_is xs z
      refine ⟨List.mem_cons_of_mem _ h1, fun y hy => ?_⟩; rcases List.mem_cons.mp hy with rfl | hy
      · exact Int.le_trans (Int.le_of_lt q) (h2 z List.mem_cons_self)
      · exact h2 y hy
    · rw [if_neg (by simpa using q)]
      obtain ⟨h1, h2⟩ := maxOf_is xs x
      refine ⟨?_, fun y hy => ?_⟩
      · rcases List.mem_cons.mp h1 with h | h
        · rw [h]
          exact List.mem_cons_self
        · exact List.mem_cons_of_mem _ (List.mem_cons_of_mem _ h)
      · rcases (List.mem_cons.mp hy) with rfl | hy
        · exact h2 y List.mem_cons_self
        · rcases (List.mem_cons.mp hy) with rfl | hy
          · exact Int.le_trans (Int.not_lt.mp q) (h2 x List.mem_cons_self)
          · exact h2 y (List.mem_cons_of_mem _ hy)
theorem cr_maxD {X : Cx} (hc : X.calm = true) (hu : X.A.units + 64 < cLine) : CallRK X (.builtin "max") [Str.ofString "default"] (rMaxD X.K) := by
  intro pins s σ H vs zs us ws Q I r rz h; obtain ⟨a, ns, d, rfl, rfl, hs, q0, q1⟩ := h
  obtain rfl := Vals.ref1 r
  obtain ⟨w1, rfl, t, e1⟩ := vals1 rz
  subst e1
  obtain ⟨its, rv, hl, _⟩ := I.list hs; refine PySem.W.max_list_datum_default (α := Int) (xs := ns) (I.ok.hd hc) hl.isList (PySem.W.HoldAll.of_ints rv.ints) (by show X.A.units + 1 + 0 < cLine; omega) (fun e h' tk hk => ⟨.int d, H, I.kept hk, ⟨_, rfl⟩, q0 e⟩) fun y ys i v h' tk e hi hv hk => ?_
  obtain ⟨t, rfl⟩ := PySem.W.int_of_holds hv
  obtain ⟨m1, m2⟩ := maxOf_is ys y
  exact ⟨.int _, H, I.kept hk, ⟨_, rfl⟩, q1 _ (e ▸ m1) (fun x hx => m2 x (e ▸ hx))⟩
end Cc

/-! zip(a list, a tuple). -/
namespace Cc
open PySem PySem.Spec PyProof.Rows L2
def ItzM (K : PySem.W.Frag) (a b : Addr) : It :=
  ⟨fun i Hh => ∃ (xs ys : List V) (x y : V), SqL K Hh a xs ∧ SqT K Hh b ys ∧ xs[i]? = some x ∧ ys[i]? = some y,
    fun i Hh v H' => ∃ T x y, v = .ref T ∧ Hh T = none ∧ H' = upd Hh T (.tup [x, y]) ∧ (∀ xs, SqL K Hh a xs → xs[i]? = some x) ∧ ∀ ys, SqT K Hh b ys → ys[i]? = some y,
    fun i Hh => ∃ xs ys : List V, SqL K Hh a xs ∧ SqT K Hh b ys ∧ xs.length = i ∧ ys.length = i⟩
/-- the cells lie apart -/
structure Ap (z TI TO i1 i2 a b : Addr) : Prop where
  S : ZipSep2 z TI TO i1 i2 [i1, a] [i2, b]
  a1 : a ≠ i1
  b2 : b ≠ i2
theorem turn_zipM {P : Program} {w : World} {K : PySem.W.Frag} {elts : List Expr} {kk : Nat} {tpos : Pos} {a b z TI TO i1 i2 : Addr} (D : Ap z TI TO i1 i2 a b) :
    Turn P w K (.Tuple elts kk tpos) (ItzM K a b) [z, TI, TO, i1, i2] z (fun i h => IsZip h z TI TO .none ∧ IsTupOf2 h TI (.ref i1) (.ref i2) ∧ (∃ x y, IsTupOf2 h TO x y) ∧ h.IsListIter i1 a i ∧ h.IsTupleIter i2 b i) where
  mem := by simp
  obj := fun i h st c hc => by
    obtain ⟨hz, hTI, ⟨x, y, hTO⟩, ⟨o1, e1, _, d1⟩, ⟨o2, e2, _, d2⟩⟩ := st; have ee : c = z ∨ c = TI ∨ c = TO ∨ c = i1 ∨ c = i2 := by simpa using hc
    rcases ee with q | q | q | q | q
    · (rw [q]; exact ⟨_, hz, fun v q => nomatch q⟩)
    · (rw [q]; exact ⟨_, hTI, fun v q => nomatch q⟩)
    · (rw [q]; exact ⟨_, hTO, fun v q => nomatch q⟩)
    · (rw [q]; exact ⟨o1, e1, fun v q => by rw [d1] at q; cases q⟩)
    · (rw [q]; exact ⟨o2, e2, fun v q => by rw [d2] at q; cases q⟩)
  keep := fun i h h' st k => by
    obtain ⟨hz, hTI, ⟨x, y, hTO⟩, h1, h2⟩ := st; exact ⟨k z (by simp) _ hz, k TI (by simp) _ hTI, ⟨x, y, k TO (by simp) _ hTO⟩, h1.at fun o q => k i1 (by simp) o q, h2.at fun o q => k i2 (by simp) o q⟩
  item := by
    intro X hP hw hK hc i pz s sg Hh Ez J kf st kg
    subst hP hw hK
    obtain ⟨hz, hTI, ⟨x0, y0, hTO⟩, h1, h2⟩ := st; obtain ⟨xs, ys, x, y, hqx, hqy, hx, hy⟩ := kg
    obtain ⟨its, rv, p, _⟩ := J.list hqx
    obtain ⟨its2, rv2, p2, _⟩ := J.tuple hqy
    obtain ⟨u, hu, ru⟩ := rv.get hx; obtain ⟨u2, hu2, ru2⟩ := rv2.get hy
    have hzl : z < s.heap.objs.size := Heap.lt_size hz; have hh : X.A.in1.handled = none := J.ok.hd hc
    have i1l : i < its.toArray.size := by rw [List.size_toArray]; exact (List.getElem?_eq_some_iff.mp hu).1
    have i2l : i < its2.toArray.size := by rw [List.size_toArray]; exact (List.getElem?_eq_some_iff.mp hu2).1
    refine wpAny_pyNext_zipD2_item D.S (Draws.list (prog := X.prog) (w := X.w) hh i1 a D.a1 its.toArray) (Draws.tuple (prog := X.prog) (w := X.w) hh i2 b D.b2 its2.toArray) hz hTI hTO ⟨h1, p.isList⟩ ⟨h2, p2⟩ i1l i2l fun v1 v2 h' tk hv1 hv2 zh TOh s1 s2 hT hsz hk => ?_
    obtain rfl : v1 = u := by
      have : its[i]? = some v1 := by simpa using hv1
      exact Option.some.inj (this.symm.trans hu)
    obtain rfl : v2 = u2 := by
      have : its2[i]? = some v2 := by simpa using hv2
      exact Option.some.inj (this.symm.trans hu2)
    refine ⟨_, rfl, wpAny_letOwnedTupleGo_zip (s := { s with heap := h', toks := tk }) zh fun h'' zz sb => ?_⟩
    have hT2 : h''.get? s.heap.objs.size = some { cls := .type "tuple", data := .seq #[v1, v2] } := (sb.2 _ (Nat.ne_of_gt hzl)).trans hT
    have nw : ObjOk X.prog X.w (upd Hh s.heap.objs.size (.tup [x, y])) h'' s.heap.objs.size (.tup [x, y]) :=
      ⟨by show 2 ≤ sizeLine; decide, [v1, v2], .cons ru (.cons ru2 .nil), ⟨_, hT2, rfl, _, rfl⟩⟩
    have J1 : Inv X pz sg (upd Hh s.heap.objs.size (.tup [x, y])) { s with heap := h'', toks := tk } :=
      J.turnedNew (t' := tk) (ch := [z, TI, TO, i1, i2]) (fun c o hb q => (sb.2 c (fun qq => hb (by simp [qq]))).trans (hk c o (fun qq => hb (by simp [qq])) (fun qq => hb (by simp [qq])) (fun qq => hb (by simp [qq])) (fun qq => hb (by simp [qq])) q)) kf (Nat.le_refl _) nw
    have nz1 : i1 ≠ z := fun q => D.S.zf1 (by rw [← q]; simp)
    have nz2 : i2 ≠ z := fun q => D.S.zf2 (by rw [← q]; simp)
    refine ⟨.ref s.heap.objs.size, _, J1, rfl, ⟨_, x, y, rfl, J.hok.fresh (Nat.le_refl _), rfl, fun l hl => by rw [J.list_inj hl hqx]; exact hx, fun l hl => by rw [J.tuple_inj hl hqy]; exact hy⟩, ⟨zz, ?_, ⟨v1, v2, ?_⟩, ?_, ?_⟩, fun c hcm => ?_⟩
    · exact (sb.2 _ D.S.TIz).trans (hk _ _ D.S.TIz D.S.TITO D.S.TIi1 D.S.TIi2 hTI)
    · exact (sb.2 _ D.S.TOz).trans TOh
    · exact s1.1.at fun o q => (sb.2 _ nz1).trans q
    · exact s2.1.at fun o q => (sb.2 _ nz2).trans q
    · have hlt : (c < s.heap.objs.size) := by
        have ee : c = z ∨ c = TI ∨ c = TO ∨ c = i1 ∨ c = i2 := by simpa using hcm
        rcases ee with q | q | q | q | q
        · rw [q]; exact hzl
        · (rw [q]; exact Heap.lt_size hTI)
        · (rw [q]; exact Heap.lt_size hTO)
        · (rw [q]; obtain ⟨_, e1, _⟩ := h1; exact Heap.lt_size e1)
        · (rw [q]; obtain ⟨_, e2, _⟩ := h2; exact Heap.lt_size e2)
      rw [upd_ne (Nat.ne_of_lt hlt)]; exact (kf c hcm).1
  done := by
    intro X hP hw hK hc i pz s sg Hh Ez J kf st kg
    subst hP hw hK
    obtain ⟨hz, hTI, ⟨x0, y0, hTO⟩, h1, h2⟩ := st; obtain ⟨xs, ys, hqx, hqy, hlen, hend⟩ := kg
    obtain ⟨its, rv, p, _⟩ := J.list hqx
    obtain ⟨its2, rv2, p2, _⟩ := J.tuple hqy
    have l1 := rv.length
    have l2 := rv2.length
    have hh : X.A.in1.handled = none := J.ok.hd hc
    have n1 : its.toArray.size = xs.length := by rw [List.size_toArray]; omega
    have n2 : its2.toArray.size = xs.length := by rw [List.size_toArray]; omega
    exact wpAny_pyNext_zipD2_end D.S (Draws.list (prog := X.prog) (w := X.w) hh i1 a D.a1 its.toArray) (Draws.tuple (prog := X.prog) (w := X.w) hh i2 b D.b2 its2.toArray) hz hTI hTO ⟨h1, p.isList⟩ ⟨h2, p2⟩ (by omega) (by omega) (.inl (by omega)) fun h' tk hk => ⟨rfl, J.turnedL (t' := tk) (ch := [z, TI, TO, i1, i2]) (fun c o hb q =>
        hk c o (fun qq => hb (by simp [qq])) (fun qq => hb (by simp [qq])) (fun qq => hb (by simp [qq])) (fun qq => hb (by simp [qq])) q) kf⟩
  self := fun A i s Qz Ez st h => wpAny_pyIter_zip st.1 h
def iZipM (K : PySem.W.Frag) (ta : TA) : TI := fun sg Hh R => ta sg Hh fun vs H1 => ∃ a b xs ys, vs = [.ref a, .ref b] ∧ SqL K H1 a xs ∧ SqT K H1 b ys ∧ R (ItzM K a b) H1
theorem pi_zipM {X : Cx} {e e2 : Expr} {ta : TA} {p pos tpos : Pos} {elts : List Expr} {kk : Nat} (hg : Gl X "zip") (hm : X.mg "zip" = none) (ha : PA X [e, e2] ta)
    (hs : starEach [e, e2] X.env = (false, eval e X.env) :: starEach [e2] X.env := by rfl) (hpl : (backTo pos (starEach [e2] X.env)).any (·.1) = false := by rfl) : PI X (.Tuple elts kk tpos) (.Call (.Name "zip" p) [e, e2] [] pos) (iZipM X.K ta) := by
  refine ⟨fun pz s sg Hh R J h => ?_⟩
  refine Call_ (ld_blt J hg hm PyProof.Rows.boot_zip (PyProof.Rows.callWith_type1 (thn (ha.run pos pz s sg Hh _ J h) fun us s1 ⟨vs, H1, J1, r1, q1⟩ => ?_) hs hpl))
  obtain ⟨a, b, xs, ys, ex, hqx, hqy, q⟩ := q1; subst ex
  cases r1 with
  | cons r rr =>
    cases rr with
    | cons r' rr =>
      cases rr
      cases r
      cases r'
      obtain ⟨its, rv, p1, _⟩ := J1.list hqx
      obtain ⟨its2, rv2, p2, _⟩ := J1.tuple hqy
      have la : a < s1.heap.objs.size := p1.lt; have lb : b < s1.heap.objs.size := by obtain ⟨o2, ho2, _⟩ := id p2; exact Heap.lt_size ho2
      refine zip_begins2 (begins_list a its.toArray) (begins_tuple b its2.toArray) p1.isList p2 fun h' hz hTI hTO h1 h2 hsz hk => wpAny_pyIter_zip hz ?_
      have J2 : Inv X pz sg H1 { s1 with heap := h' } := J1.kept (t' := s1.toks) hk
      have D : Ap (s1.heap.objs.size + 4) (s1.heap.objs.size + 2) (s1.heap.objs.size + 3) s1.heap.objs.size (s1.heap.objs.size + 1) a b :=
        ⟨zip_sep2 (fp1 := [a]) (fp2 := [b]) (fun c hc => by rw [List.mem_singleton.mp hc]; exact la) (fun c hc => by rw [List.mem_singleton.mp hc]; exact lb), Nat.ne_of_lt la, Nat.ne_of_lt (Nat.lt_succ_of_lt lb)⟩
      refine ⟨s1.heap.objs.size + 4, [s1.heap.objs.size + 4, s1.heap.objs.size + 2, s1.heap.objs.size + 3, s1.heap.objs.size, s1.heap.objs.size + 1], _, _, H1, rfl, J2, turn_zipM D, ⟨hz, hTI, ⟨_, _, hTO⟩, ⟨_, h1, rfl, rfl⟩, ⟨_, h2, rfl, rfl⟩⟩, fun c hcm => ?_, q⟩
      have ee : c = s1.heap.objs.size + 4 ∨ c = s1.heap.objs.size + 2 ∨ c = s1.heap.objs.size + 3 ∨ c = s1.heap.objs.size ∨ c = s1.heap.objs.size + 1 := by simpa using hcm
      have hle : (s1.heap.objs.size ≤ c) := by
        rcases ee with z | z | z | z | z
        · (rw [z]; exact Nat.le_add_right _ _)
        · (rw [z]; exact Nat.le_add_right _ _)
        · (rw [z]; exact Nat.le_add_right _ _)
        · rw [z]; exact Nat.le_refl _
        · (rw [z]; exact Nat.le_add_right _ _)
      exact J1.fpOk hle (J1.hok.fresh hle)
/-- a loop over such a zip, both of one length -/
theorem for_zipM {K : PySem.W.Frag} {a b : Addr} {xs ys : List V} {g : TG} {tb : TS} {D : Ends} {sg : L2.St} {Hh : Hp} (hl : xs.length = ys.length) (Pv : Nat → L2.St → Hp → Prop) (h0 : Pv 0 sg Hh) (hq : ∀ i sg Hh, Pv i sg Hh → SqL K Hh a xs ∧ SqT K Hh b ys)
    (hs : ∀ (i : Nat) (x y : V) (T : Addr) (sg : L2.St) (Hh : Hp), xs[i]? = some x → ys[i]? = some y → Pv i sg Hh → Hh T = none → g (.ref T) sg (upd Hh T (.tup [x, y])) fun s2 H2 => tb { D with nx := Pv (i + 1), ct := Pv (i + 1), bk := D.nx } s2 H2) (hd : ∀ sg Hh, Pv xs.length sg Hh → D.nx sg Hh) :
    ∃ W : Nat → Nat → L2.St → Hp → Prop, (∃ m, W 0 m sg Hh) ∧ ∀ i m sg Hh, W i m sg Hh →
      ((ItzM K a b).stop i Hh ∧ D.nx sg Hh) ∨ ((ItzM K a b).go i Hh ∧ ∃ N : L2.St → Hp → Prop, (∀ s' H', N s' H' → ∃ m', m' < m ∧ W (i + 1) m' s' H') ∧ ∀ v H', (ItzM K a b).yld i Hh v H' → g v sg H' fun s2 H2 => tb { D with nx := N, ct := N, bk := D.nx } s2 H2) := by
  refine ⟨fun i m sg Hh => m = xs.length - i ∧ i ≤ xs.length ∧ Pv i sg Hh, ⟨xs.length, rfl, Nat.zero_le _, h0⟩, ?_⟩
  rintro i m sg Hh ⟨rfl, hi, p⟩
  obtain ⟨qx, qy⟩ := hq i sg Hh p
  by_cases lt : i < xs.length
  · have hx : xs[i]? = some xs[i] := List.getElem?_eq_getElem lt
    have lt2 : i < ys.length := by omega
    have hy : ys[i]? = some ys[i] := List.getElem?_eq_getElem lt2
    refine .inr ⟨⟨xs, ys, _, _, qx, qy, hx, hy⟩, Pv (i + 1), fun s' H' pp => ⟨xs.length - (i + 1), by omega, rfl, lt, pp⟩, fun v H' y => ?_⟩
    obtain ⟨T, u, v, rfl, hT, rfl, f1, f2⟩ := y
    exact hs i u v T sg Hh (f1 xs qx) (f2 ys qy) p hT
  · obtain rfl : i = xs.length := by omega
    exact .inl ⟨⟨xs, ys, qx, qy, rfl, hl.symm⟩, hd sg Hh p⟩
end Cc

namespace Cc
open PySem PySem.Spec PyProof.Rows L2
def roomV : Option Bool → V
  | none => .non
  | some b => .str (roomS b)
def spFRooms (K : PySem.W.Frag) : Sp := fun vs H Q _ => ∃ (t : Addr) (ws : List V) (ss : List Stp), vs = [.ref t] ∧ SqT K H t ws ∧ (∀ H', Same H H' → SqT K H' t ws) ∧ Steps H ws ss ∧ ss.length ≤ 1000 ∧
  ∀ q H', H q = none → Same H H' → H' q = some (.lst ((roomsF false ss).map roomV)) → Q (.ref q) H'
/-- a plan that a house can hold -/
def Fits (C : Addr) (H : Hp) (p : Addr) (ss : List Stp) (c : Int) : Prop := PlanAt C H p ss ∧ ss.length ≤ 60 ∧ (∀ s ∈ ss, s.ok c) ∧ 0 ≤ c ∧ c ≤ 1000000000000000000000
def spSettled (C : Addr) : Sp := fun vs H Q _ => ∃ (p : Addr) (ss : List Stp) (c : Int), vs = [.ref p, .int c] ∧ Fits C H p ss c ∧ ∀ H', Same H H' → Q (.int (setF c ss)) H'
def spSpared (C : Addr) : Sp := fun vs H Q _ => ∃ (p : Addr) (ss : List Stp) (c : Int), vs = [.ref p, .int c] ∧ Fits C H p ss c ∧ c < 1000000000000000000000 ∧ ∀ H', Same H H' → Q (.int (sparedF c ss)) H'
def spLong (C : Addr) : Sp := fun vs H Q _ => ∃ (p : Addr) (ss : List Stp) (c : Int), vs = [.ref p, .int c] ∧ Fits C H p ss c ∧ c ≤ 1000000000000000000 ∧ ∀ q H', Same H H' → H' q = some (.tup [.int (setF c ss), .int 1]) → Q (.ref q) H'
def spSaving (C : Addr) : Sp := fun vs H Q _ => ∃ (p : Addr) (ss : List Stp) (c : Int), vs = [.ref p, .int c] ∧ Fits C H p ss c ∧ c < 1000000000000000000 ∧ ∀ q H', Same H H' → H' q = some (.tup [.int (sparedF c ss), .int 1]) → Q (.ref q) H'
def spFewest (C : Addr) : Sp := fun vs H Q _ => ∃ (p : Addr) (ss : List Stp), vs = [.ref p] ∧ PlanAt C H p ss ∧ ss.length ≤ 60 ∧ (∀ s ∈ ss, s.ok 1000000000000000000) ∧ ∀ H', Same H H' → Q (.int (needF ss)) H'
def spSparing (C : Addr) : Sp := fun vs H Q _ => ∃ (p : Addr) (ss : List Stp), vs = [.ref p] ∧ PlanAt C H p ss ∧ ss.length ≤ 60 ∧ ∀ H', Same H H' → Q (.int (spareF ss)) H'
def spBest (C : Addr) : Sp := fun vs H Q _ => ∃ (p : Addr) (ss : List Stp) (a b n : Int), vs = [.ref p, .int a, .int b, .int n] ∧ PlanAt C H p ss ∧ ss.length ≤ 60 ∧ (∀ s ∈ ss, s.ok 1000000000000000000) ∧ 0 ≤ a ∧ a ≤ 1000000000 ∧ 0 ≤ b ∧ b ≤ 1000000000 ∧ 0 ≤ n ∧ n ≤ 1000000000 ∧
  ∀ r H', Same H H' → BestF ss a (b * n) r → Q (.int r) H'
theorem Fits.same {C : Addr} {H H' : Hp} {p : Addr} {ss : List Stp} {c : Int} (h : Fits C H p ss c) (s : Same H H') : Fits C H' p ss c := ⟨h.1.same s, h.2⟩
theorem roomsF_one (s : Stp) : ∀ (a : List Stp) (t : Bool), roomsF t (a ++ [s]) = roomsF t a ++ [match s with | .turn => none | .meet b _ => some (b != endT t a)]
  | [], t => by cases s <;> rfl
  | .turn :: a, t => by
    show none :: roomsF (!t) (a ++ [s]) = none :: (roomsF (!t) a ++ _)
    rw [roomsF_one s a (!t)]
    rfl
  | .meet b n :: a, t => by
    show some (b != t) :: roomsF t (a ++ [s]) = some (b != t) :: (roomsF t a ++ _)
    rw [roomsF_one s a t]
    rfl
theorem roomsF_len : ∀ (a : List Stp) (t : Bool), (roomsF t a).length = a.length
  | [], _ => rfl
  | .turn :: a, t => by
    show (roomsF (!t) a).length + 1 = a.length + 1
    rw [roomsF_len a]
  | .meet b n :: a, t => by
    show (roomsF t a).length + 1 = a.length + 1
    rw [roomsF_len a]
theorem endT_one (t : Bool) (a : List Stp) (s : Stp) : endT t (a ++ [s]) = match s with | .turn => !(endT t a) | .meet _ _ => endT t a := by
  rw [endT_app]
  cases s <;> rfl
theorem room_ne (b t : Bool) : (!decide (V.bl (decide (V.str (roomS b) = V.str "red")) = V.bl t)) = (b != t) := by
  rw [room_eq]
  cases b <;> cases t <;> decide
/-- the needs of steps, one by one -/
def needsL : List Stp → List Int
  | [] => []
  | .turn :: ss => needsL ss
  | .meet _ n :: ss => n :: needsL ss
theorem needsL_one (s : Stp) : ∀ a : List Stp, needsL (a ++ [s]) = needsL a ++ (match s with | .turn => [] | .meet _ n => [n])
  | [] => by cases s <;> rfl
  | .turn :: a => needsL_one s a
  | .meet b n :: a => by
    show n :: needsL (a ++ [s]) = n :: (needsL a ++ _)
    rw [needsL_one s a]
theorem needsL_len : ∀ a : List Stp, (needsL a).length ≤ a.length
  | [] => Nat.le_refl _
  | .turn :: a => Nat.le_succ_of_le (needsL_len a)
  | .meet b n :: a => Nat.succ_le_succ (needsL_len a)
theorem need_max : ∀ {ss : List Stp}, (∀ s ∈ ss, s.ok 1000000000000000000) → (needsL ss = [] → needF ss = 0) ∧ ∀ m ∈ needsL ss, (∀ x ∈ needsL ss, x ≤ m) → needF ss = m := by
  have up : ∀ {ss : List Stp}, ∀ x ∈ needsL ss, x ≤ needF ss := fun {ss} => by
    induction ss with
    | nil => intro x h; cases h
    | cons s ss ih =>
      cases s with
      | turn => exact ih
      | meet b n =>
        intro x h
        show x ≤ mx n (needF ss)
        rw [mx_eq]; rcases List.mem_cons.mp h with rfl | h
        · omega
        · have := ih x h
          omega
  have at_ : ∀ {ss : List Stp}, (∀ s ∈ ss, s.ok 1000000000000000000) → needF ss = 0 ∨ needF ss ∈ needsL ss := fun {ss} => by
    induction ss with
    | nil => intro _; exact .inl rfl
    | cons s ss ih =>
      intro hs
      have ih := ih fun z m => hs z (List.mem_cons_of_mem _ m)
      cases s with
      | turn => exact ih
      | meet b n =>
        have n0 := (hs _ List.mem_cons_self).1
        show mx n (needF ss) = 0 ∨ mx n (needF ss) ∈ n :: needsL ss
        unfold mx
        by_cases q : needF ss > n
        · rw [if_pos q]
          rcases ih with e | e
          · exact .inl e
          · exact .inr (List.mem_cons_of_mem _ e)
        · rw [if_neg q]
          exact .inr List.mem_cons_self
  intro ss hs
  have pos : ∀ x ∈ needsL ss, 0 ≤ x := by
    clear up at_
    induction ss with
    | nil => intro x h; cases h
    | cons s ss ih =>
      have ih := ih fun z m => hs z (List.mem_cons_of_mem _ m)
      cases s with
      | turn => exact ih
      | meet b n =>
        intro x h; rcases List.mem_cons.mp h with rfl | h
        · exact (hs _ List.mem_cons_self).1
        · exact ih x h
  refine ⟨fun e => ?_, fun m hm h => ?_⟩
  · rcases at_ hs with q | q
    · exact q
    · rw [e] at q
      cases q
  · have h1 := up m hm
    rcases at_ hs with q | q
    · have := pos m hm
      omega
    · have := h _ q
      omega
theorem mostF_one (s : Stp) : ∀ (a : List Stp) (t : Bool) (x : Int × Int), mostF t (a ++ [s]) x = match s with
    | .turn => mostF t a x
    | .meet b n => if (b != endT t a) = true then (mx (mostF t a x).1 n, (mostF t a x).2) else ((mostF t a x).1, mx (mostF t a x).2 n)
  | [], t, x => by cases s <;> rfl
  | .turn :: a, t, x => mostF_one s a (!t) x
  | .meet b n :: a, t, x => mostF_one s a t _
def mostD (x : Int × Int) : List (Key × V) := [(Sum.inr "red", .int x.1), (Sum.inr "blue", .int x.2)]
theorem mostD_red (x : Int × Int) : valV (mostD x) (Sum.inr "red") = some (.int x.1) := by simp [valV, mostD]
theorem mostD_blue (x : Int × Int) : valV (mostD x) (Sum.inr "blue") = some (.int x.2) := by
  have h : ¬ (("red" : Str) = ("blue" : Str)) := by decide +kernel
  simp [valV, mostD, h]
theorem mostD_room (x : Int × Int) (b : Bool) : valV (mostD x) (Sum.inr (roomS b)) = some (.int (if b = true then x.1 else x.2)) := by
  cases b
  · exact mostD_blue x
  · exact mostD_red x
theorem mostD_put (x : Int × Int) (b : Bool) (z : Int) : putK (mostD x) (Sum.inr (roomS b)) (.int z) = mostD (if b = true then (z, x.2) else (x.1, z)) := by
  have h : ¬ (("red" : Str) = ("blue" : Str)) := by decide +kernel
  have h2 : ¬ (("blue" : Str) = ("red" : Str)) := by decide +kernel
  cases b <;> simp [putK, mostD, roomS, h, h2]
theorem mostD_new (x y : Int) : mergeK [] [((Sum.inr "red" : Key), V.int x), (Sum.inr "blue", .int y)] = mostD (x, y) := by
  have h : ¬ (("red" : Str) = ("blue" : Str)) := by decide +kernel
  simp [mergeK, putK, mostD, h]
def roomO (t : Bool) : Stp → Option Bool
  | .turn => none
  | .meet b _ => some (b != t)
theorem rooms_get {a : List Stp} {t : Bool} {i : Nat} {s : Stp} (h : a[i]? = some s) : (roomsF t a)[i]? = some (roomO (endT t (a.take i)) s) := by
  have e : a = (a.take i ++ [s]) ++ a.drop (i + 1) := by
    rw [← take_more h, List.take_append_drop]
  have hi := (List.getElem?_eq_some_iff.mp h).1
  have app : ∀ (u v : List Stp) (t : Bool), roomsF t (u ++ v) = roomsF t u ++ roomsF (endT t u) v := fun u => by
    induction u with
    | nil => intro v t; rfl
    | cons z u ih =>
      intro v t
      cases z with
      | turn =>
        show none :: roomsF (!t) (u ++ v) = none :: (roomsF (!t) u ++ _)
        rw [ih]
        rfl
      | meet b n =>
        show some (b != t) :: roomsF t (u ++ v) = some (b != t) :: (roomsF t u ++ _)
        rw [ih]
        rfl
  have l1 : (roomsF t (a.take i)).length = i := by rw [roomsF_len, List.length_take]; omega
  have er : roomsF t a = roomsF t (a.take i) ++ ([roomO (endT t (a.take i)) s] ++ roomsF (endT t (a.take i ++ [s])) (a.drop (i + 1))) := by
    conv => lhs; rw [e, app, roomsF_one, List.append_assoc]
    cases s <;> rfl
  rw [er, List.getElem?_append_right (by rw [l1]; exact Nat.le_refl _), l1, Nat.sub_self]
  rfl
section
variable {P : Program} {w : World} {K : PySem.W.Frag} {mg : Str → Option Value} {base : Heap} {C TU pS gS : Addr} {mc : Value}
abbrev s_first_rooms : Stmt := top 22
abbrev n_first_rooms : List Str := ["steps", "rooms", "turned", "step", "is_red"]
theorem sc_first_rooms : FnScope n_first_rooms ["steps"] (defScope s_first_rooms) := ⟨rfl, rfl, rfl, by decide +kernel, rfl, by decide +kernel, by decide +kernel⟩
theorem ok_first_rooms {f : Addr} {fd : FuncData} (F : Fun K "first_rooms" "first_rooms" s_first_rooms f fd) (T : Txt K mg C TU pS gS mc) : FnOk P w K mg base CX0 1 f fd ["steps"] (spFRooms K) := by
  refine F.ok sc_first_rooms (fun vs H Q E h => ?_) (fun cdv A outer s H vs Q E hr h => ?_)
  · obtain ⟨t, ws, ss, rfl, _⟩ := h
    rfl
  · obtain ⟨t, ws, ss, rfl, hT, hT2, hs, hn, k⟩ := h
    refine ⟨_, pss_cons (ps_set (i := 1) sc_first_rooms.nd rfl (.inl rfl) (pe_lst pa_nil))
      (pss_cons (ps_set (i := 2) sc_first_rooms.nd rfl (.inl rfl) pe_bl)
      (pss_cons (ps_for PassesOwn.never rfl (pi_tup (pv 0)) (pg_name (i := 3) sc_first_rooms.nd rfl (.inl rfl))
        (pss_one (ps_if (pt_cmpR (op_eqTurn hr.units) (pv 3) (pe_glob (v := .ref TU) rfl T.gT rfl) (nomark _))
          (pss_cons (ps_set (i := 2) sc_first_rooms.nd rfl (.inl rfl) (pe_not (pv 2)))
          (pss_one (ps_expr (pe_bm PySem.F.plainAttrs_list PySem.F.slot_list_append PySem.F.type_list_append mt_append (pv 1) (pa_cons pe_non pa_nil)))))
          (pss_cons (ps_set (i := 4) sc_first_rooms.nd rfl (.inl rfl) (pe_cmpR op_ne (pe_cmpR op_eq (pe_ix ix_tup (pv 3) pe_int (fun _ _ => rfl)) pe_str (nomark _)) (pv 2) (nomark _)))
          (pss_one (ps_expr (pe_bm PySem.F.plainAttrs_list PySem.F.slot_list_append PySem.F.type_list_append mt_append (pv 1) (pa_cons (pe_ifExp (pt_val (pv 4)) pe_str pe_str) pa_nil))))))))
      (pss_one (ps_ret (pv 1))))), ?_⟩
    refine ⟨by show 0 ≤ sizeLine; decide, fun q hq => ?_⟩
    have s0 := same_upd (o := .lst []) hq
    refine ⟨_, rfl, t, rfl, ⟨_, hT2 _ s0⟩, for_tup (K := K) (a := t) (xs := ws) (fun i σ H' => ∃ (x y : Option V), σ = [some (.ref t), some (.ref q), some (.bl (endT false (ss.take i))), x, y] ∧ Same H H' ∧ H' q = some (.lst ((roomsF false (ss.take i)).map roomV)))
      ⟨none, none, rfl, s0, upd_same⟩ (fun i σ H' _ ⟨_, _, _, s1, _⟩ => hT2 _ s1) ?_ ?_⟩
    · rintro i v σ H1 hi ⟨x, y, rfl, s1, e1⟩
      obtain ⟨st, hst, u, rfl, hu0⟩ := hs.get hi
      have hu := s1 _ _ hu0
      have il : i < ss.length := (List.getElem?_eq_some_iff.mp hst).1
      have hlen : ((roomsF false (ss.take i)).map roomV).length < sizeLine := by
        rw [List.length_map, roomsF_len, List.length_take, sizeLine_eq]
        omega
      have et := endT_one false (ss.take i) st
      have er := roomsF_one st (ss.take i) false
      rw [← take_more hst] at et er
      refine ⟨_, rfl, u, st, _, rfl, hu, rfl, T.tT _, _, rfl, ?_⟩
      cases st with
      | turn =>
        refine iteT ⟨_, rfl, _, rfl, ?_⟩
        refine ⟨_, rfl, .inl ⟨rfl, _, SqL.of e1⟩, q, _, _, rfl, rfl, e1, hlen, ?_⟩
        refine ⟨_, _, by rw [et]; rfl, same_new hq s1, upd_lst ?_⟩
        rw [er, List.map_append]
        rfl
      | meet b n =>
        refine iteF ⟨_, rfl, u, _, _, _, rfl, rfl, SqT.of hu, at_of (j := 0) rfl rfl, rfl, _, rfl, rfl, ?_⟩
        rw [room_ne]
        refine ⟨_, rfl, .inl ⟨rfl, _, SqL.of e1⟩, _, rfl, _, rfl, ?_⟩
        dsimp only at er
        generalize (b != endT false (ss.take i)) = bb at *
        have fin : ∀ (r : V), r = roomV (some bb) → ∃ (x y : Option V), [some (V.ref t), some (.ref q), some (.bl (endT false (ss.take i))), some (.ref u), some (.bl bb)] = [some (.ref t), some (.ref q), some (.bl (endT false (ss.take (i + 1)))), x, y] ∧ Same H (upd H1 q (.lst ((roomsF false (ss.take i)).map roomV ++ [r]))) ∧ upd H1 q (.lst ((roomsF false (ss.take i)).map roomV ++ [r])) q = some (.lst ((roomsF false (ss.take (i + 1))).map roomV)) := by
          rintro r rfl
          refine ⟨_, _, by rw [et], same_new hq s1, upd_lst ?_⟩
          rw [er, List.map_append]
          rfl
        cases bb with
        | true => exact iteT ⟨q, _, _, rfl, rfl, e1, hlen, fin _ rfl⟩
        | false => exact iteF ⟨q, _, _, rfl, rfl, e1, hlen, fin _ rfl⟩
    · rintro σ H1 ⟨x, y, rfl, s1, e1⟩
      rw [hs.length, List.take_length] at e1
      exact ⟨_, rfl, k q H1 hq s1 e1⟩
abbrev s_settled_carrying : Stmt := top 28
abbrev n_settled_carrying : List Str := ["plan", "chairs"]
theorem sc_settled_carrying : FnScope n_settled_carrying ["plan", "chairs"] (defScope s_settled_carrying) := ⟨rfl, rfl, rfl, by decide +kernel, rfl, by decide +kernel, by decide +kernel⟩
theorem ok_settled_carrying {f f_after_rounds : Addr} {fd : FuncData} (F : Fun K "settled_carrying" "settled_carrying" s_settled_carrying f fd) (D_after_rounds : Dn P w K mg base 3 "after_rounds" f_after_rounds (spARounds C)) : FnOk P w K mg base CX0 4 f fd ["plan", "chairs"] (spSettled C) := by
  refine F.ok sc_settled_carrying (fun vs H Q E h => ?_) (fun cdv A outer s H vs Q E hr h => ?_)
  · obtain ⟨p, ss, c, rfl, _⟩ := h
    rfl
  · obtain ⟨p, ss, c, rfl, ⟨hp, hl, hs, c0, c1⟩, k⟩ := h
    refine ⟨_, pss_one (ps_ret (pe_op op_sub (pe_ix ix_tup (pe_callR D_after_rounds.ok (hr.mono (by decide)) rfl D_after_rounds.at_ D_after_rounds.kp pass0 (pa_cons (pv 0) (pa_cons (pv 1) (pa_cons pe_int (pa_cons pe_int pa_nil))))) pe_int (fun _ _ => rfl)) (pe_ix ix_tup (pe_callR D_after_rounds.ok (hr.mono (by decide)) rfl D_after_rounds.at_ D_after_rounds.kp pass0 (pa_cons (pv 0) (pa_cons (pv 1) (pa_cons pe_int (pa_cons pe_int pa_nil))))) pe_int (fun _ _ => rfl)))), ?_⟩
    refine ⟨_, rfl, _, rfl, p, ss, c, 0, 3, rfl, hp, hl, hs, Int.le_refl 0, c0, by decide, by decide, fun q H1 s1 e1 => ⟨q, _, _, _, rfl, rfl, SqT.of e1, at_of (j := 1) rfl rfl, ?_⟩⟩
    refine ⟨_, rfl, _, rfl, p, ss, c, 0, 2, rfl, hp.same s1, hl, hs, Int.le_refl 0, c0, by decide, by decide, fun q H2 s2 e2 => ⟨q, _, _, _, rfl, rfl, SqT.of e2, at_of (j := 1) rfl rfl, ?_⟩⟩
    exact ⟨_, _, rfl, rfl, k H2 (s1.trans s2)⟩
abbrev s_long_run : Stmt := top 26
abbrev n_long_run : List Str := ["plan", "chairs"]
theorem sc_long_run : FnScope n_long_run ["plan", "chairs"] (defScope s_long_run) := ⟨rfl, rfl, rfl, by decide +kernel, rfl, by decide +kernel, by decide +kernel⟩
theorem ok_long_run {f f_check_house f_settled_carrying : Addr} {fd : FuncData} (F : Fun K "long_run" "long_run" s_long_run f fd) (D_check_house : Dn P w K mg base 3 "check_house" f_check_house (spChkHouse C)) (D_settled_carrying : Dn P w K mg base 4 "settled_carrying" f_settled_carrying (spSettled C)) : FnOk P w K mg base CX0 5 f fd ["plan", "chairs"] (spLong C) := by
  refine F.ok sc_long_run (fun vs H Q E h => ?_) (fun cdv A outer s H vs Q E hr h => ?_)
  · obtain ⟨p, ss, c, rfl, _⟩ := h
    rfl
  · obtain ⟨p, ss, c, rfl, hf, c1, k⟩ := h
    refine ⟨_, pss_cons (ps_expr (pe_callR D_check_house.ok (hr.mono (by decide)) rfl D_check_house.at_ D_check_house.kp pass0 (pa_cons (pv 0) (pa_cons (pv 1) pa_nil))))
      (pss_one (ps_ret (pe_tup (pa_cons (pe_callR D_settled_carrying.ok (hr.mono (by decide)) rfl D_settled_carrying.at_ D_settled_carrying.kp pass0 (pa_cons (pv 0) (pa_cons (pv 1) pa_nil))) (pa_cons pe_int pa_nil))))), ?_⟩
    obtain ⟨hp, hl, hs, c0, _⟩ := id hf
    refine ⟨_, rfl, _, rfl, p, c, ss, rfl, hp, c0, c1, hs, hl, fun H1 s1 => ?_⟩
    refine ⟨_, rfl, _, rfl, p, ss, c, rfl, hf.same s1, fun H2 s2 => ⟨by show 2 ≤ sizeLine; decide, fun z hz => ?_⟩⟩
    exact k z _ ((s1.trans s2).trans (same_upd hz)) upd_same
abbrev s_spared_carrying : Stmt := top 29
abbrev n_spared_carrying : List Str := ["plan", "chairs"]
theorem sc_spared_carrying : FnScope n_spared_carrying ["plan", "chairs"] (defScope s_spared_carrying) := ⟨rfl, rfl, rfl, by decide +kernel, rfl, by decide +kernel, by decide +kernel⟩
theorem ok_spared_carrying {f f_settled_carrying : Addr} {fd : FuncData} (F : Fun K "spared_carrying" "spared_carrying" s_spared_carrying f fd) (D_settled_carrying : Dn P w K mg base 4 "settled_carrying" f_settled_carrying (spSettled C)) : FnOk P w K mg base CX0 5 f fd ["plan", "chairs"] (spSpared C) := by
  refine F.ok sc_spared_carrying (fun vs H Q E h => ?_) (fun cdv A outer s H vs Q E hr h => ?_)
  · obtain ⟨p, ss, c, rfl, _⟩ := h
    rfl
  · obtain ⟨p, ss, c, rfl, hf, c1, k⟩ := h
    refine ⟨_, pss_one (ps_ret (pe_op op_sub (pe_callR D_settled_carrying.ok (hr.mono (by decide)) rfl D_settled_carrying.at_ D_settled_carrying.kp pass0 (pa_cons (pv 0) (pa_cons (pv 1) pa_nil))) (pe_callR D_settled_carrying.ok (hr.mono (by decide)) rfl D_settled_carrying.at_ D_settled_carrying.kp pass0 (pa_cons (pv 0) (pa_cons (pe_op op_add (pv 1) pe_int) pa_nil))))), ?_⟩
    obtain ⟨hp, hl, hs, c0, _⟩ := id hf
    refine ⟨_, rfl, _, rfl, p, ss, c, rfl, hf, fun H1 s1 => ?_⟩
    refine ⟨_, rfl, _, rfl, _, _, rfl, rfl, p, ss, c + 1, rfl, ⟨hp.same s1, hl, oks_mono hs (by omega), by omega, by omega⟩, fun H2 s2 => ?_⟩
    exact ⟨_, _, rfl, rfl, k H2 (s1.trans s2)⟩
abbrev s_saving : Stmt := top 27
abbrev n_saving : List Str := ["plan", "chairs"]
theorem sc_saving : FnScope n_saving ["plan", "chairs"] (defScope s_saving) := ⟨rfl, rfl, rfl, by decide +kernel, rfl, by decide +kernel, by decide +kernel⟩
theorem ok_saving {f f_check_house f_check_number f_spared_carrying : Addr} {fd : FuncData} (F : Fun K "saving" "saving" s_saving f fd) (T : Txt K mg C TU pS gS mc) (D_check_house : Dn P w K mg base 3 "check_house" f_check_house (spChkHouse C)) (D_check_number : Dn P w K mg base 2 "check_number" f_check_number spChkNum) (D_spared_carrying : Dn P w K mg base 5 "spared_carrying" f_spared_carrying (spSpared C)) : FnOk P w K mg base CX0 6 f fd ["plan", "chairs"] (spSaving C) := by
  refine F.ok sc_saving (fun vs H Q E h => ?_) (fun cdv A outer s H vs Q E hr h => ?_)
  · obtain ⟨p, ss, c, rfl, _⟩ := h
    rfl
  · obtain ⟨p, ss, c, rfl, hf, c1, k⟩ := h
    refine ⟨_, pss_cons (ps_expr (pe_callR D_check_house.ok (hr.mono (by decide)) rfl D_check_house.at_ D_check_house.kp pass0 (pa_cons (pv 0) (pa_cons (pv 1) pa_nil))))
      (pss_cons (ps_expr (pe_callR D_check_number.ok (hr.mono (by decide)) rfl D_check_number.at_ D_check_number.kp pass0 (pa_cons (pv 1) (pa_cons pe_int (pa_cons (pe_op op_sub (pe_con (pv 0) rfl) pe_int) pa_nil)))))
      (pss_one (ps_ret (pe_tup (pa_cons (pe_callR D_spared_carrying.ok (hr.mono (by decide)) rfl D_spared_carrying.at_ D_spared_carrying.kp pass0 (pa_cons (pv 0) (pa_cons (pv 1) pa_nil))) (pa_cons pe_int pa_nil)))))), ?_⟩
    obtain ⟨hp, hl, hs, c0, _⟩ := id hf
    obtain ⟨dx, tp, ws, e1, _⟩ := hp.tup (K := K)
    obtain ⟨u, hu⟩ := T.con
    refine ⟨_, rfl, _, rfl, p, c, ss, rfl, hp, c0, by omega, hs, hl, fun H1 s1 => ?_⟩
    refine ⟨_, rfl, _, rfl, p, C, dx, _, _, u, rfl, s1 _ _ e1, T.cl, hu, lk_no (by decide +kernel), _, _, rfl, rfl, c, 0, _, rfl, c0, by omega, ?_⟩
    refine ⟨_, rfl, _, rfl, p, ss, c, rfl, hf.same s1, by omega, fun H2 s2 => ⟨by show 2 ≤ sizeLine; decide, fun z hz => ?_⟩⟩
    exact k z _ ((s1.trans s2).trans (same_upd hz)) upd_same
abbrev s_fewest_chairs : Stmt := top 30
abbrev n_fewest_chairs : List Str := ["plan", "step"]
theorem sc_fewest_chairs : FnScope n_fewest_chairs ["plan"] (defScope s_fewest_chairs) := ⟨rfl, rfl, rfl, by decide +kernel, rfl, by decide +kernel, by decide +kernel⟩
theorem ok_fewest_chairs {f : Addr} {fd fdS : FuncData} (F : Fun K "fewest_chairs" "fewest_chairs" s_fewest_chairs f fd) (T : Txt K mg C TU pS gS mc) (G : Gs P w K mg base C gS fdS) : FnOk P w K mg base CX0 3 f fd ["plan"] (spFewest C) := by
  refine F.ok sc_fewest_chairs (fun vs H Q E h => ?_) (fun cdv A outer s H vs Q E hr h => ?_)
  · obtain ⟨p, ss, rfl, _⟩ := h
    rfl
  · obtain ⟨p, ss, rfl, hp, hl, hs, k⟩ := h
    refine ⟨_, pss_one (ps_ret (pe_callBK (cr_maxD rfl hr.units) (by rfl) T.b.max (by decide +kernel) (pa_cons (pe_lc (own := [("step", 1)]) (g := gName 1) (tt := (tTest (tOp rEq (tCB (fun xs H Q => ∃ x n, xs = [x] ∧ LenV K x H n ∧ Q (.int n) H) (tCons (tVar 1) tNil)) (tC (.int 2))))) (te := (tOp (rIxT K) (tVar 1) (tC (.int 1)))) rfl sc_fewest_chairs.nd (pi_tup (pe_prop (pv 0) T.cl T.pr G.ok (hr.mono (by decide)) G.b .nil pass0 rfl)) (blkOk_by (N := n_fewest_chairs) (sc := defScope s_fewest_chairs) (by decide +kernel)) (fun _ _ _ _ _ => pg_name (i := 1) sc_fewest_chairs.nd rfl (.inl rfl)) (fun _ _ _ _ _ => by exact (pts_one (pt_cmpR op_eq (pe_callB call_len (by rfl) T.b.len PySem.boot_len (pa_cons (pv 1) pa_nil)) pe_int (nomark _)))) (fun _ _ _ _ _ => by exact (pe_ix ix_tup (pv 1) pe_int (fun _ _ => rfl)))) pa_nil) (pk_cons pe_int pk_nil))), ?_⟩
    obtain ⟨dx, tp, ws, e1, e2, e3, e4⟩ := hp.tup (K := K)
    refine ⟨_, rfl, p, dx, _, rfl, e1, p, dx, _, _, rfl, e1, lk_self, tp, rfl, ⟨_, e2⟩, fun D hD => ?_⟩
    refine lc_tup (K := K) (a := tp) (xs := ws) (fun i H' => Same H H' ∧ H' D = some (.lst ((needsL (ss.take i)).map V.int))) ⟨same_upd hD, upd_same⟩ (fun i H' _ ⟨s1, _⟩ => e3 _ s1) ?_ ?_
    · rintro i v H1 hi ⟨s1, g1⟩
      obtain ⟨st, hst, u, rfl, hu0⟩ := e4.get hi
      have hu := s1 _ _ hu0
      have en := needsL_one st (ss.take i)
      rw [← take_more hst] at en
      have hlen : ((needsL (ss.take i)).map V.int).length < sizeLine := by
        have := needsL_len (ss.take i)
        rw [List.length_map, sizeLine_eq]; rw [List.length_take] at this
        omega
      refine ⟨rfl, _, rfl, _, _, rfl, .inr ⟨_, SqT.of hu, rfl⟩, rfl, _, rfl, ?_⟩
      cases st with
      | turn =>
        refine ifF (by simp [stpV]) ⟨s1, ?_⟩
        rw [en, List.append_nil]
        exact g1
      | meet b n =>
        refine ifT (by simp [stpV]) ⟨_, rfl, u, _, _, _, rfl, rfl, SqT.of hu, at_of (j := 1) rfl rfl, _, g1, hlen, same_new hD s1, upd_lst ?_⟩
        rw [en, List.map_append]
        rfl
    · rintro H1 ⟨s1, g1⟩
      rw [e4.length, List.take_length] at g1
      obtain ⟨n1, n2⟩ := need_max hs
      refine ⟨D, _, 0, rfl, rfl, SqL.of g1, fun e => ?_, fun m hm hx => ?_⟩
      · rw [← n1 e]
        exact k H1 s1
      · rw [← n2 m hm hx]
        exact k H1 s1
abbrev s_sparing_chairs : Stmt := top 31
abbrev n_sparing_chairs : List Str := ["plan", "steps", "most", "room", "step"]
theorem sc_sparing_chairs : FnScope n_sparing_chairs ["plan"] (defScope s_sparing_chairs) := ⟨rfl, rfl, rfl, by decide +kernel, rfl, by decide +kernel, by decide +kernel⟩
theorem ok_sparing_chairs {f f_first_rooms : Addr} {fd fdS : FuncData} (F : Fun K "sparing_chairs" "sparing_chairs" s_sparing_chairs f fd) (T : Txt K mg C TU pS gS mc) (G : Gs P w K mg base C gS fdS) (D_first_rooms : Dn P w K mg base 1 "first_rooms" f_first_rooms (spFRooms K)) : FnOk P w K mg base CX0 3 f fd ["plan"] (spSparing C) := by
  refine F.ok sc_sparing_chairs (fun vs H Q E h => ?_) (fun cdv A outer s H vs Q E hr h => ?_)
  · obtain ⟨p, ss, rfl, _⟩ := h
    rfl
  · obtain ⟨p, ss, rfl, hp, hl, k⟩ := h
    refine ⟨_, pss_cons (ps_set (i := 1) sc_sparing_chairs.nd rfl (.inl rfl) (pe_op op_repG (pe_prop (pv 0) T.cl T.pr G.ok (hr.mono (by decide)) G.b .nil pass0 rfl) pe_int))
      (pss_cons (ps_set (i := 2) sc_sparing_chairs.nd rfl (.inl rfl) (pe_disp (pps_cons pe_str pe_int (pps_cons pe_str pe_int pps_nil)) (by rfl) (by rfl) (fun z => by cases z) (by decide)))
      (pss_cons (ps_for PassesOwn.never rfl (pi_zipM (by rfl) T.b.zip (pa_cons (pe_callR D_first_rooms.ok (hr.mono (by decide)) rfl D_first_rooms.at_ D_first_rooms.kp pass0 (pa_cons (pv 1) pa_nil)) (pa_cons (pv 1) pa_nil))) (pg_tup rfl (pgs_cons (pg_name (i := 3) sc_sparing_chairs.nd rfl (.inl rfl)) (pgs_cons (pg_name (i := 4) sc_sparing_chairs.nd rfl (.inl rfl)) pgs_nil)))
        (pss_one (ps_if (pt_cmpR op_notN (pv 3) pe_non (nomark _))
          (pss_one (ps_dput (hu_of hr) (pv 2) (pv 3) (pe_callB (call_max2 rfl) (by rfl) T.b.max (by decide +kernel) (pa_cons (pe_dget (hu_of hr) (pv 2) (pv 3) (fun _ _ => rfl)) (pa_cons (pe_ix ix_tup (pv 4) pe_int (fun _ _ => rfl)) pa_nil))) rfl)) pss_nil)))
      (pss_one (ps_ret (pe_op op_add (pe_dget (hu_of hr) (pv 2) pe_str (fun _ _ => rfl)) (pe_dget (hu_of hr) (pv 2) pe_str (fun _ _ => rfl))))))), ?_⟩
    obtain ⟨dx, tp, ws, e1, e2, e3, e4⟩ := hp.tup (K := K)
    refine ⟨_, rfl, p, dx, _, rfl, e1, p, dx, _, _, rfl, e1, lk_self, ?_⟩
    dsimp only [tC]
    refine rep_steps e2 e3 e4 (by omega) (by omega) (by omega) fun q us H1 s1 g1 g2 g3 => ?_
    have e5 : (List.replicate (2 : Int).toNat ss).flatten = ss ++ ss := by
      show ss ++ (ss ++ []) = ss ++ ss
      rw [List.append_nil]
    rw [e5] at g3
    refine fun d hd => ⟨upd_same, [(Sum.inr "red", .int 0), (Sum.inr "blue", .int 0)], rfl, by decide, ?_⟩
    rw [mostD_new]
    have hd0 : H d = none := by
      cases e : H d with
      | none => rfl
      | some o => rw [s1 d o e] at hd; cases hd
    have s2 : Same H1 (upd (upd H1 d (.dK [])) d (.dK (mostD (0, 0)))) := fun b o e => by
      rw [upd_ne (ne_of_none e hd), upd_ne (ne_of_none e hd)]
      exact e
    have ed : upd (upd H1 d (.dK [])) d (.dK (mostD (0, 0))) d = some (.dK (mostD (0, 0))) := upd_same
    generalize upd (upd H1 d (.dK [])) d (.dK (mostD (0, 0))) = H2 at *
    refine ⟨_, rfl, q, us, ss ++ ss, rfl, g2 _ s2, (fun H' s => g2 _ (s2.trans s)), g3.same s2, by rw [List.length_append]; omega, fun r H3 hr3 s3 e6 => ?_⟩
    have ed3 := s3 _ _ ed
    have nrd : r ≠ d := (ne_of_none ed hr3).symm
    have g4 := g3.same (s2.trans s3)
    have ul : us.length = (ss ++ ss).length := g3.length
    have rl : ((roomsF false (ss ++ ss)).map roomV).length = us.length := by rw [List.length_map, roomsF_len, ul]
    have kq : ∀ H', But d H3 H' → SqT K H' q us := fun H' b => by
      rcases g2 _ (s2.trans s3) with h | h
      · rcases h with h | ⟨o, h⟩
        · exact .inl (.inl (b _ _ (ne_of h ed3 fun z => nomatch z) h))
        · exact .inl (.inr ⟨o, b _ _ (ne_of h ed3 fun z => nomatch z) h⟩)
      · exact .inr h
    refine ⟨_, rfl, r, q, _, us, rfl, SqL.of e6, g2 _ (s2.trans s3), ?_⟩
    refine for_zipM (K := K) (a := r) (b := q) (xs := (roomsF false (ss ++ ss)).map roomV) (ys := us) rl (fun i σ H' => ∃ (x y : Option V), σ = [some (.ref p), some (.ref q), some (.ref d), x, y] ∧ But d H3 H' ∧ H' d = some (.dK (mostD (mostF false ((ss ++ ss).take i) (0, 0)))))
      ⟨none, none, rfl, But.refl d H3, ed3⟩ (fun i σ H' ⟨_, _, _, b1, _⟩ => ⟨SqL.of (b1 _ _ nrd e6), kq _ b1⟩) ?_ ?_
    · rintro i x y T1 σ H4 hx hy ⟨x3, x4, rfl, b1, e7⟩ hT1
      obtain ⟨st, hst, u, rfl, hu0⟩ := g4.get hy
      have hxx : x = roomV (roomO (endT false ((ss ++ ss).take i)) st) := by
        rw [List.getElem?_map, rooms_get hst] at hx
        exact (Option.some.inj hx).symm
      subst hxx
      have em := mostF_one st ((ss ++ ss).take i) false (0, 0)
      rw [← take_more hst] at em
      have s5 := same_upd (o := .tup [roomV (roomO (endT false ((ss ++ ss).take i)) st), .ref u]) hT1
      have hu := s5 _ _ (b1 _ _ (ne_of hu0 ed3 fun z => nomatch z) hu0)
      have e8 := s5 _ _ e7
      have b5 : But d H3 (upd H4 T1 (.tup [roomV (roomO (endT false ((ss ++ ss).take i)) st), .ref u])) := b1.trans (But.of s5)
      refine ⟨T1, _, rfl, SqT.of upd_same, rfl, _, _, rfl, _, _, rfl, rfl, ?_⟩
      generalize upd H4 T1 (.tup [roomV (roomO (endT false ((ss ++ ss).take i)) st), .ref u]) = H5 at *
      refine ⟨_, rfl, rfl, _, rfl, ?_⟩
      cases st with
      | turn => exact ifF rfl ⟨_, _, rfl, b5, by rw [em]; exact e8⟩
      | meet b n =>
        dsimp only at em
        simp only [roomO, roomV]
        obtain ⟨bb, hbb⟩ : ∃ bb, (b != endT false ((ss ++ ss).take i)) = bb := ⟨_, rfl⟩
        refine ifT rfl ?_
        rw [hbb] at em ⊢
        have dg : DGet H5 d (.str (roomS bb)) (some (.int (if bb = true then (mostF false ((ss ++ ss).take i) (0, 0)).1 else (mostF false ((ss ++ ss).take i) (0, 0)).2))) := mostD_room (mostF false ((ss ++ ss).take i) (0, 0)) bb ▸ DGet.k (k := Sum.inr (roomS bb)) e8
        refine ⟨_, rfl, _, rfl, d, _, rfl, dg, _, rfl, u, _, _, _, rfl, rfl, SqT.of hu, at_of (j := 1) rfl rfl, _, _, rfl, ?_⟩
        refine ⟨_, rfl, _, rfl, d, _, rfl, DPut.k (k := Sum.inr (roomS bb)) e8 (by show 2 < sizeLine; decide), ?_⟩
        refine ⟨_, _, rfl, b5.trans but_upd, ?_⟩
        rw [mostD_put, upd_same, em]
        cases bb <;> rfl
    · rintro σ H4 ⟨x3, x4, rfl, b1, e7⟩
      rw [rl, ul, List.take_length] at e7
      have h1 : DGet H4 d (.str "red") (some (.int (mostF false (ss ++ ss) (0, 0)).1)) := mostD_red (mostF false (ss ++ ss) (0, 0)) ▸ DGet.k (k := Sum.inr "red") e7
      have h2 : DGet H4 d (.str "blue") (some (.int (mostF false (ss ++ ss) (0, 0)).2)) := mostD_blue (mostF false (ss ++ ss) (0, 0)) ▸ DGet.k (k := Sum.inr "blue") e7
      refine ⟨_, rfl, d, _, rfl, h1, _, rfl, d, _, rfl, h2, _, _, rfl, rfl, ?_⟩
      exact k H4 fun b o e => b1 b o (ne_of_none e hd0) (s3 b o (s2 b o (s1 b o e)))
def intAt (σ : L2.St) (i : Nat) : Int := match σ[i]? with
  | some (some (.int z)) => z
  | _ => 0
theorem small_prod {b n : Int} (b0 : 0 ≤ b) (b1 : b ≤ 1000000000) (n0 : 0 ≤ n) (n1 : n ≤ 1000000000) : 0 ≤ b * n ∧ b * n ≤ 1000000000000000000 := by
  have h1 := Int.mul_le_mul b1 n1 n0 (by decide)
  exact ⟨Int.mul_nonneg b0 n0, by omega⟩
abbrev s_best_chairs : Stmt := top 32
abbrev n_best_chairs : List Str := ["plan", "price", "carry_price", "rounds", "low", "high", "middle"]
theorem sc_best_chairs : FnScope n_best_chairs ["plan", "price", "carry_price", "rounds"] (defScope s_best_chairs) := ⟨rfl, rfl, rfl, by decide +kernel, rfl, by decide +kernel, by decide +kernel⟩
theorem ok_best_chairs {f f_check_number f_sparing_chairs f_fewest_chairs f_spared_carrying : Addr} {fd : FuncData} (F : Fun K "best_chairs" "best_chairs" s_best_chairs f fd) (g_MAX_PRICE : ∃ u, mg "MAX_PRICE" = some u ∧ RelV (.int 1000000000) u) (g_MAX_PRICED_ROUNDS : ∃ u, mg "MAX_PRICED_ROUNDS" = some u ∧ RelV (.int 1000000000) u) (D_check_number : Dn P w K mg base 2 "check_number" f_check_number spChkNum) (D_sparing_chairs : Dn P w K mg base 3 "sparing_chairs" f_sparing_chairs (spSparing C)) (D_fewest_chairs : Dn P w K mg base 3 "fewest_chairs" f_fewest_chairs (spFewest C)) (D_spared_carrying : Dn P w K mg base 5 "spared_carrying" f_spared_carrying (spSpared C)) : FnOk P w K mg base CX0 6 f fd ["plan", "price", "carry_price", "rounds"] (spBest C) := by
  refine F.ok sc_best_chairs (fun vs H Q E h => ?_) (fun cdv A outer s H vs Q E hr h => ?_)
  · obtain ⟨p, ss, a, b, n, rfl, _⟩ := h
    rfl
  · obtain ⟨p, ss, a, b, n, rfl, hp, hl, hs, a0, a1, b0, b1, n0, n1, k⟩ := h
    obtain ⟨u_MAX_PRICE, m_MAX_PRICE, r_MAX_PRICE⟩ := g_MAX_PRICE
    obtain ⟨u_MAX_PRICED_ROUNDS, m_MAX_PRICED_ROUNDS, r_MAX_PRICED_ROUNDS⟩ := g_MAX_PRICED_ROUNDS
    refine ⟨_, pss_cons (ps_expr (pe_callR D_check_number.ok (hr.mono (by decide)) rfl D_check_number.at_ D_check_number.kp pass0 (pa_cons (pv 1) (pa_cons pe_int (pa_cons (pe_glob rfl m_MAX_PRICE r_MAX_PRICE) pa_nil)))))
      (pss_cons (ps_expr (pe_callR D_check_number.ok (hr.mono (by decide)) rfl D_check_number.at_ D_check_number.kp pass0 (pa_cons (pv 2) (pa_cons pe_int (pa_cons (pe_glob rfl m_MAX_PRICE r_MAX_PRICE) pa_nil)))))
      (pss_cons (ps_expr (pe_callR D_check_number.ok (hr.mono (by decide)) rfl D_check_number.at_ D_check_number.kp pass0 (pa_cons (pv 3) (pa_cons pe_int (pa_cons (pe_glob rfl m_MAX_PRICED_ROUNDS r_MAX_PRICED_ROUNDS) pa_nil)))))
      (pss_cons (ps_par (i := 4) (j := 5) rfl sc_best_chairs.nd rfl rfl (by decide) rfl rfl (pa_cons (pe_callR D_fewest_chairs.ok (hr.mono (by decide)) rfl D_fewest_chairs.at_ D_fewest_chairs.kp pass0 (pa_cons (pv 0) pa_nil)) (pa_cons (pe_callR D_sparing_chairs.ok (hr.mono (by decide)) rfl D_sparing_chairs.at_ D_sparing_chairs.kp pass0 (pa_cons (pv 0) pa_nil)) pa_nil)) (by rfl))
      (pss_cons (ps_while PassesOwn.never (pt_cmpR op_lt (pv 4) (pv 5) (nomark _))
        (pss_cons (ps_set (i := 6) sc_best_chairs.nd rfl (.inl rfl) (pe_op op_fdiv (pe_op op_add (pv 4) (pv 5)) pe_int))
        (pss_one (ps_if (pt_cmpR op_le (pe_op op_mul (pe_op op_mul (pv 2) (pv 3)) (pe_callR D_spared_carrying.ok (hr.mono (by decide)) rfl D_spared_carrying.at_ D_spared_carrying.kp pass0 (pa_cons (pv 0) (pa_cons (pv 6) pa_nil)))) (pv 1) (nomark _))
          (pss_one (ps_set (i := 5) sc_best_chairs.nd rfl (.inl rfl) (pv 6)))
          (pss_one (ps_set (i := 4) sc_best_chairs.nd rfl (.inl rfl) (pe_op op_add (pv 6) pe_int)))))))
      (pss_one (ps_ret (pv 4))))))), ?_⟩
    refine ⟨_, rfl, a, 0, _, rfl, a0, a1, ?_⟩
    refine ⟨_, rfl, b, 0, _, rfl, b0, b1, ?_⟩
    refine ⟨_, rfl, n, 0, _, rfl, n0, n1, ?_⟩
    refine ⟨_, rfl, p, ss, rfl, hp, hl, hs, fun H1 s1 => ?_⟩
    refine ⟨_, rfl, p, ss, rfl, hp.same s1, hl, fun H2 s2 => ⟨_, _, rfl, ?_⟩⟩
    have s02 := s1.trans s2
    obtain ⟨A0, A1⟩ := small_prod b0 b1 n0 n1
    have nn := need_nonneg ss
    obtain ⟨q1, q2⟩ := need_spare ss
    have nb : needF ss ≤ 1000000000000000000 := need_le (by decide) hs
    refine while_by (fun σ H' => ∃ (x : Option V) (lo hi : Int), σ = [some (.ref p), some (.int a), some (.int b), some (.int n), some (.int lo), some (.int hi), x] ∧ Same H H' ∧ needF ss ≤ lo ∧ lo ≤ hi ∧ hi ≤ spareF ss ∧ (∀ c, needF ss ≤ c → c < lo → a < (b * n) * sparedF c ss) ∧ (hi < spareF ss → (b * n) * sparedF hi ss ≤ a))
      (fun σ _ => (intAt σ 5 - intAt σ 4).toNat) ⟨none, _, _, rfl, s02, Int.le_refl _, q1, Int.le_refl _, fun c h1 h2 => absurd h2 (Int.not_lt.mpr h1), fun h => absurd h (Int.lt_irrefl _)⟩ ?_ (fun σ H Q Q' m ⟨v, e1, u, e2, i, j, e3, e4, kk, e5, q⟩ => ⟨v, e1, u, e2, i, j, e3, e4, kk, e5, m _ _ q⟩)
    rintro σ H3 ⟨x, lo, hi, rfl, s3, h1, h2, h3, h4, h5⟩
    refine ⟨_, rfl, _, rfl, _, _, rfl, rfl, _, rfl, ?_⟩
    by_cases c : lo < hi
    · refine ifT (decide_eq_true c) ?_
      refine ⟨_, rfl, _, rfl, _, _, rfl, rfl, _, _, rfl, rfl, ⟨by decide, by decide⟩, ?_⟩
      obtain ⟨mi, hmi⟩ : ∃ mi, mi = (lo + hi) / 2 := ⟨_, rfl⟩
      dsimp only
      rw [← hmi]
      have m1 : lo ≤ mi := by omega
      have m2 : mi < hi := by omega
      refine ⟨_, rfl, _, rfl, _, _, rfl, rfl, .inl ⟨by omega, by omega⟩, _, rfl, _, rfl, p, ss, mi, rfl, ⟨hp.same s3, hl, need_ok hs (by omega), by omega, by omega⟩, by omega, fun H4 s4 => ⟨_, _, rfl, rfl, .inl ⟨by omega, by omega⟩, ?_⟩⟩
      refine ⟨_, rfl, _, _, rfl, rfl, _, rfl, ?_⟩
      by_cases d : (b * n) * sparedF mi ss ≤ a
      · refine ifT (decide_eq_true d) ⟨_, rfl, ?_⟩
        refine ⟨⟨_, lo, mi, rfl, s3.trans s4, h1, m1, by omega, h4, fun _ => d⟩, ?_⟩
        show (mi - lo).toNat < (hi - lo).toNat
        omega
      · refine ifF (decide_eq_false d) ⟨_, rfl, _, _, rfl, rfl, ?_⟩
        refine ⟨⟨_, mi + 1, hi, rfl, s3.trans s4, by omega, by omega, h3, fun z z0 z1 => ?_, h5⟩, ?_⟩
        · have le := spared_le hs z0 (d := mi) (by omega)
          have le2 := Int.mul_le_mul_of_nonneg_left le A0
          omega
        · show (hi - (mi + 1)).toNat < (hi - lo).toNat
          omega
    · refine ifF (decide_eq_false c) ⟨_, rfl, ?_⟩
      have e : lo = hi := by omega
      subst e
      exact k lo H3 s3 ⟨h1, h3, h4, h5⟩
end
end Cc

/-! An own error class called with a text that is made on the way. -/
namespace Cc
open PySem PySem.Spec PyProof.Rows L2
section
variable {X : Cx} {C : Addr} {bmB : List Value} {B newId initId : String} {x : Str} {e : Expr} {ta : TA} {p pos : Pos}
theorem pmk_any (F : ExcBaseFacts B newId initId bmB) (q : PySem.W.excIn X.K C bmB newId = true) (gC : X.mg x = some (.ref C)) (kC : PySem.W.keepIn X.K (.ref C) = true) (r : Raises X (.ref C)) (hg : Gl X x) (ha : PA X [e] ta)
    (hs : starEach [e] X.env = (false, eval e X.env) :: starEach [] X.env := by rfl) (hp : (backTo pos (starEach [] X.env)).any (·.1) = false := by rfl) (hdb : (x == ("__debug__" : Str)) = false := by decide) :
    PMk X (.Call (.Name x p) [e] [] pos) (fun σ H Q => ta σ H fun vs H1 => (∃ v, vs = [v]) ∧ Q (.ref C) none H1) := by
  intro pins s σ H Q I h
  refine wpAny_Call_Name_kw (ld_glob I hg gC ?_ hdb); refine PySem.W.callWith_K (h₀ := X.base) I.ok.mod.kin kC (thn (ha.run pos pins s σ H _ I h) fun us z1 ⟨vs, H1, I1, r1, ⟨v, ev⟩, q1⟩ => ⟨I1.kIn, ?_⟩) hs hp
  subst ev
  obtain ⟨u, rfl, ru⟩ := r1.one
  show wpAny _ _ (call (.ref C) [u]) _ _ _; obtain ⟨bm, N, nm, qn, bs, hd, sn, sub, ab, col, dd, k0, k1, k2, k3, k5, mN, hC, hN, hni, T⟩ := exc_obj I1.kIn q
  exact wpAny_call_exc_subT F T hC hN hni (fun h' a hm => mk_of I1 hm r q1 (I1.hok.gone hm.new)) (by show 1 ≤ sizeLine; decide)
end
/-- what is asked of an own error class that the program raises -/
structure Err (K : PySem.W.Frag) (mg : Str → Option Value) (x : Str) (C : Addr) : Prop where
  at_ : mg x = some (.ref C)
  (kp : PySem.W.keepIn K (.ref C) = true)
  ex : ∃ bmB B newId initId, ExcBaseFacts B newId initId bmB ∧ PySem.W.excIn K C bmB newId = true
  sub : PySem.W.subIn K (.ref C) (.type "BaseException") = some true
  ty : PySem.W.typeIn K (.ref C) = some (.type "type")
theorem log_small {i : Int} (h0 : -(2 ^ 64) < i) (h1 : i < 2 ^ 64) : i.natAbs.log2 < 1920 := by
  by_cases q : i.natAbs = 0
  · rw [q]
    decide
  · have h : i.natAbs < 2 ^ 64 := by omega
    exact Nat.lt_trans ((Nat.log2_lt q).mpr h) (by decide)
/-- a def of the module that may raise -/
structure DnX (P : Program) (w : World) (K : PySem.W.Frag) (mg : Str → Option Value) (base : Heap) (k : Nat) (x : Str) (f : Addr) (sp : Sp) : Prop where
  at_ : mg x = some (.ref f)
  kp : PySem.W.keepIn K (Value.ref f) = true
  ok : FnR P w K mg base (L2.CX P w) k f sp
/-- a block that is not reached -/
theorem pss_never {X : Cx} {rest : List Stmt} : PSs X rest (fun _ _ _ => False) := ⟨fun _ _ _ _ _ _ h => h.elim⟩
end Cc

/-! A class over ValueError called with nothing but one keyword: BaseException.__new__ takes it and drops it, then the class's own __init__ has it. -/
namespace PySem
namespace EiX
open Builtin Builtin.ObjectAttr PySem.HandSPX
/-- the written parts of a class over ValueError -/
structure Parts where
  (nm q : Str)
  ns : Addr
  (bs bm sub : List Value)
  hd : Bool
  sn : List Str
  ab : Bool
  col : Option Bool
  dd : Option Addr
  (k0 k1 k2 k3 k5 : Option Value)
/-- at C: that class -/
abbrev Parts.at (p : Parts) (h : Heap) (C : Addr) : Prop := h.get? C = some (excClassObj p.nm p.q C p.ns p.bs p.bm p.hd p.sn p.sub p.ab p.col p.dd p.k0 p.k1 p.k2 p.k3 p.k5 "ValueError.__new__")
theorem Parts.has {p : Parts} (ve : refsVE p.bm = true) {C : Addr} {t : String} {b : Bool} (e : veTail.contains (.type t) = b) : (Value.ref C :: p.bm).contains (.type t) = b := by
  rw [List.contains_cons, refsVE_contains t p.bm ve, e]
  cases b <;> rfl
section
variable {prog : Program} {w : World} {M : Model} {A : Around} {Er : Value → Shared → Prop} {R : Result → Shared → Prop} {h : Heap} {gn : Array GenState} {dw : Drawn} {tn : Nat} {sys : OsState} {C fI : Addr} {p : Parts} {fld : Str} {v : Value}
/-- the row of __new__ lets a keyword pass -/
theorem new_lets (ve : refsVE p.bm = true) (cl : p.at h C) {Q : Unit → Shared → Prop} (q : Q () ⟨h, gn, dw, tn, sys⟩) : wpAny M A (checkBuiltinCall "ValueError.__new__" ⟨[.ref C], [(fld, v)]⟩) Q Er ⟨h, gn, dw, tn, sys⟩ := by
  have over : (Value.ref C :: p.bm).contains (.type "ValueError") = true := Parts.has ve (by decide +kernel)
  have star := F.excBase_ValueError.noStar
  simp only [checkBuiltinCall, F.excBase_ValueError.newKind, F.excBase_ValueError.newSplit, F.excBase_ValueError.newRow]
  repeat (first
    | refine wpAny_loadPart_at cl ?_
    | (refine wpAny_isSubtype_exc cl ?_; rw [over])
    | refine wpAny_staticBase_exc cl ?_
    | refine wpAny_madeBy_exc cl ?_
    | simp only [bne_self_eq_false, Bool.false_eq_true, if_false]
    | wp_step)
  exact q
/-- so does type.__call__'s -/
theorem call_lets (cl : p.at h C) {Q : Unit → Shared → Prop} (q : Q () ⟨h, gn, dw, tn, sys⟩) : wpAny M A (checkBuiltinCall "type.__call__" ⟨[.ref C], [(fld, v)]⟩) Q Er ⟨h, gn, dw, tn, sys⟩ := by
  have under := tc_sub
  have ty : (⟨h, gn, dw, tn, sys⟩ : Shared).TypeIs (.ref C) "type" := ⟨_, cl, rfl⟩
  simp only [checkBuiltinCall, tc_split, tc_kind]
  repeat (any_goals (first
    | assumption
    | with_reducible refine wpAny_loadPart_at cl ?_
    | with_reducible refine wpAny_onRaise ?_
    | with_reducible refine wpAny_map ?_
    | wp_step))
/-- the heap with the empty args and the new exception -/
abbrev fresh2 (h : Heap) (C : Addr) : Heap := (h.push (W.kdv_tup [])).push (excO C h.objs.size)
/-- ValueError.__new__(C, fld = v) -/
theorem new_run (ve : refsVE p.bm = true) (cl : p.at h C) (q : R (.ok (.ret (.ref (h.objs.size + 1)))) ⟨fresh2 h C, gn, dw, tn, sys⟩) : codeAny (model prog w) A (.builtin "ValueError.__new__" ⟨[.ref C], [(fld, v)]⟩) R ⟨h, gn, dw, tn, sys⟩ := by
  have ends := F.excBase_ValueError.ends
  have few : ([] : List Value).length ≤ sizeLine := Nat.zero_le _
  have c1 : (Value.ref C :: p.bm).contains (.type "ValueError") = true := Parts.has ve (by decide +kernel)
  have c2 : (Value.ref C :: p.bm).contains (.type "AttributeError") = false := Parts.has ve (by decide +kernel)
  have c3 : (Value.ref C :: p.bm).contains (.type "NameError") = false := Parts.has ve (by decide +kernel)
  refine codeAny_builtinAt F.excBase_ValueError.entry ?_; unfold Builtin.«BaseException.__new__»; refine wpAt_bind ?_
  show wpAt _ _ _ (stack >>= fun _ => _) _ _ _
  refine wpAt_bind (wpAt_stack fun _ below => wpAt_of_wpAny ?_); wp_walk
  refine wpAt_of_wpAny ?_; rw [F.excBase_ValueError.owner]
  repeat (first
    | with_reducible refine wpAny_madeHere_exc F.excBase_ValueError.canon cl ?_
    | with_reducible refine wpAny_loadPart_at cl ?_
    | (with_reducible refine wpAny_isSubtype_exc cl ?_; first | rw [c1] | rw [c2] | rw [c3])
    | wp_step)
  show R _ _; rw [Heap.size_push]; exact q
/-- what __init__ gave back -/
def Given (Q : Fin → Shared → Prop) (Er : Value → Shared → Prop) (x : Addr) : Result → Shared → Prop := fun r s' => match r with
  | .ok (.ret u) => u = .none ∧ Q (.done (.ret (.ref x))) s'
  | .ok _ => False
  | .error e => Er e s'
theorem type_run (ve : refsVE p.bm = true) (cl : p.at h C) (li : W.Looks (model prog w) h (typeLookup (.ref C) "__init__") (some (.ref fI))) (lb : ∀ x, W.Looks (model prog w) h (bindSpecial (.ref fI) x) (.ref fI, [x])) {Q : Fin → Shared → Prop}
    (q : codeAny (model prog w) A (.call (.ref fI) ⟨[.ref (h.objs.size + 1)], [(fld, v)]⟩) (Given Q Er (h.objs.size + 1)) ⟨fresh2 h C, gn, dw, tn, sys⟩) :
    wpAny (model prog w) A (Builtin.«type.__call__» ⟨[.ref C], [(fld, v)]⟩) Q Er ⟨h, gn, dw, tn, sys⟩ := by
  repeat (first | with_reducible refine wpAny_loadPart_at cl ?_ | with_reducible refine wpAny_madeBy_exc cl ?_ | wp_step)
  refine codeAny_call_builtin_code (Code.quiet_builtin _ F.excBase_ValueError.quiet) (new_lets ve cl (new_run ve cl ?_))
  show wpAny _ _ _ _ _ _
  have up : ∀ b o, h.get? b = some o → (fresh2 h C).get? b = some o := fun b o e => Heap.get?_push_of_some _ (Heap.get?_push_of_some _ e)
  have cl2 : p.at (fresh2 h C) C := up _ _ cl
  have new2 : (fresh2 h C).get? (h.objs.size + 1) = some (excO C h.objs.size) := by heap_get
  have own : (Value.ref C :: p.bm).contains (.ref C) = true := by simp
  have li2 := li.keeps up; have lb2 := (lb (.ref (h.objs.size + 1))).keeps up
  unfold isInstance
  repeat (first | with_reducible refine wpAny_loadPart_at new2 ?_ | (with_reducible refine wpAny_isSubtype_exc cl2 ?_; rw [own]) | wp_step)
  show wpAny _ _ (typeLookup (.ref C) _) _ _ _; refine li2.at (wpAny_holding (wpAny_bind (lb2.at (wpAny_bind (wpAny_call (codeAny_mono q fun r s' z => ?_))))))
  match r, z with
  | .error _, z => exact z
  | .ok (.ret _), ⟨e, z⟩ =>
    subst e
    first | exact wpAny_pure (wpAny_pure z) | (wp_walk; exact z)
/-- C(fld = v) -/
theorem made_run (ve : refsVE p.bm = true) (cl : p.at h C) (li : W.Looks (model prog w) h (typeLookup (.ref C) "__init__") (some (.ref fI))) (lb : ∀ x, W.Looks (model prog w) h (bindSpecial (.ref fI) x) (.ref fI, [x]))
    (q : codeAny (model prog w) (A.under (.builtin "type.__call__" ⟨[.ref C], [(fld, v)]⟩)) (.call (.ref fI) ⟨[.ref (h.objs.size + 1)], [(fld, v)]⟩) (W.InitBack (h.objs.size + 1) R) ⟨fresh2 h C, gn, dw, tn, sys⟩) :
    codeAny (model prog w) A (.call (.ref C) ⟨[], [(fld, v)]⟩) R ⟨h, gn, dw, tn, sys⟩ := by
  have l1 := tc_lookup; have l2 := tc_bind (.ref C)
  have ty : (⟨h, gn, dw, tn, sys⟩ : Shared).TypeIs (.ref C) "type" := ⟨_, cl, rfl⟩
  refine codeAny_of_tree (show wpAny _ _ (callAny (.ref C) _) _ _ _ from ?_)
  repeat (any_goals (first | assumption | with_reducible refine wpAny_loadPart_at cl ?_ | wp_step))
  refine ⟨rfl, codeAny_call_builtin_at (Code.quiet_builtin _ (by decide +kernel)) entry_typeCall (call_lets cl (type_run ve cl li lb (codeAny_mono q fun r s' z => ?_)))⟩
  match r, z with
  | .error _, z => exact z
  | .ok (.ret _), z => exact z
end
end EiX
end PySem

/-! The __init__ of an own error: super().__init__(f'.. {index} ..'); self.index = index. -/
namespace PySem
namespace EiX
open PySem.W PySem.Calls PyProof.Rows PySem.HandSPX
def iA (p1 p2 : Pos) : Arguments := { posonlyargs := [], args := [{ arg := "self", annotation := none, pos := p1 }], vararg := none, kwonlyargs := [{ arg := "index", annotation := none, pos := p2 }], kw_defaults := [none], kwarg := none, defaults := [] }
def iB (t1 t2 : Str) (a1 a2 a3 a4 a5 a6 a7 a8 a9 a10 b1 b2 b3 b4 : Pos) : List Stmt := [
  .Expr (.Call (.Attribute (.Call (.Name "super" a1) [] [] a2) "__init__" a3) [.JoinedStr [.Constant (.str t1) 0 a4, .FormattedValue (.Name "index" a5) (-1) none a6, .Constant (.str t2) 0 a7] a8] [] a9) a10,
  .Assign [.Attribute (.Name "self" b1) "index" b2] (.Name "index" b3) b4]
def iS : Scope := { kind := .function, names := [(PySem.Str.ofString "self", .local), (PySem.Str.ofString "index", .local), (PySem.Str.ofString "__class__", .free), (PySem.Str.ofString "super", .globalImplicit)], isGenerator := false, isCoroutine := false, more := [] }
/-- what is asked of such a class, at C, and of its __init__, at fI -/
structure EiTxt (P : Program) (K : Frag) (mg : Str → Option Value) (x : Str) (C fI : Addr) : Prop where
  at_ : mg x = some (.ref C)
  (kp : keepIn K (.ref C) = true)
  cls : ∃ nm q N bs bm sn sub ab col dd k0 k1 k2 k3 k5, K.lookup C = some (excClassObj nm q C N bs bm true sn sub ab col dd k0 k1 k2 k3 k5 "ValueError.__new__") ∧ refsVE bm = true
  sa : findIn K (.ref C) "__setattr__" = some (some (.builtin "object.__setattr__"))
  noN : findIn K (.ref C) "index" = some none
  iC : findIn K (.ref C) "__init__" = some (some (.ref fI))
  tC : typeIn K (.ref fI) = some (.type "function")
  sub : subIn K (.ref C) (.type "BaseException") = some true
  ty : typeIn K (.ref C) = some (.type "type")
  sve : subIn K (.ref C) (.type "ValueError") = some true
  sup : ks_superIn K C C "__init__" = some (some (.builtin "ValueError.__init__"))
  opq : nsIn K cStatics "thirdparty.any" = some none
  nsu : mg "super" = none
  htop : (P.main.scope.names.lookup ("super" : Str)).isSome = false
  fn : ∃ (cc cda : Addr) (oc : Value) (od : Option Addr) (kV doc pm : Value) (an : Option Addr) (ct : Value) (osl : Array (Option Value)) (qual t1 t2 : Str) (p1 p2 a1 a2 a3 a4 a5 a6 a7 a8 a9 a10 b1 b2 b3 b4 : Pos) (cl ccl : Value) (cld cdd : Option Addr) (csl ccs : Array (Option Value)) (vs : Array Value) (file : Str) (tf : Tok),
    K.lookup fI = some ⟨oc, od, .func (ksFn "__init__" qual (iA p1 p2) (iB t1 t2 a1 a2 a3 a4 a5 a6 a7 a8 a9 a10 b1 b2 b3 b4) iS .none kV doc pm an (.ref cda) ct cc), osl⟩ ∧ codeIn K (.ref cda) qual = true ∧
    K.lookup cc = some ⟨cl, cld, .cell (some (.ref C)), csl⟩ ∧ K.lookup cda = some ⟨ccl, cdd, .fields vs, ccs⟩ ∧ vs[2]? = some (.str file tf) ∧ ((P.main.file : Str) == file) = true ∧ t1.length ≤ 1000 ∧ t2.length ≤ 1000 ∧ (a3.endLine == a9.line) = true
/-- what __init__ leaves of a fresh exception at x -/
structure InitEnd (h h' : Heap) (x C dx : Addr) (v : Value) : Prop where
  keep : ∀ b o, b ≠ x → h.get? b = some o → h'.get? b = some o
  obj : ∃ t1 : Addr, h'.get? x = some { cls := .ref C, dict := some dx, data := .fields #[.ref t1, .none, .none, .none, .bool false, .none] }
  dbig : h.objs.size ≤ dx
  dne : dx ≠ x
  ns : h'.Ns1 dx (fun y => if y = "index" then some v else none)
theorem ldC {M : Model} {s : Shared} {env : Env} {m : Str → Option Value} {x : Str} {pos : Pos} {v : Value} {Q : Value → Shared → Prop} {A : Around} {E : Value → Shared → Prop} (hn : s.heap.Ns env.locals m) (hv : m x = some v) (h : Q v s)
    (hk : env.scope.kind = .function := by rfl) (hl : env.kindOf x = some .local := by rfl) (hd : (x == ("__debug__" : Str)) = false := by decide) :
    wpAny M A (eval (.Name x pos) env) Q E s := wpAny_Name (wpAny_loadName_local hk hl hn hv h) hd
/-- super().__init__ bound to the new exception, called -/
theorem call_mw {prog : Program} {w : World} {A : Around} {Er : Value → Shared → Prop} {h : Heap} {gn : Array GenState} {dw : Drawn} {tn : Nat} {sys : OsState} {C u e t0 : Addr} {p : Parts} {rest : List Value} {Q : Value → Shared → Prop}
    (cl : p.at h C) (he : h.get? e = some (excO C t0)) (hu : h.get? u = some (kxs_mw "ValueError.__init__" e)) (hrest : rest.length ≤ sizeLine)
    (hq : ∀ h' t1, (∀ b o, b ≠ e → h.get? b = some o → h'.get? b = some o) → h'.get? e = some (excO C t1) → Q .none ⟨h', gn, dw, tn, sys⟩) :
    wpAny (model prog w) A (call (.ref u) rest) Q Er ⟨h, gn, dw, tn, sys⟩ := by
  have isW : (Value.type "method-wrapper" == Value.type "method" || Value.type "method-wrapper" == Value.type "builtin_function_or_method" || Value.type "method-wrapper" == Value.type "method-wrapper") = true := by decide
  refine wpAny_call (codeAny_of_tree (show wpAny _ A.in1 (callAny (.ref u) ⟨rest, []⟩) _ _ _ from ?_))
  simp only [callAny]; refine wpAny_bind (wpAny_load hu ?_); simp only [kxs_mw, isW, if_true]
  refine KFB.if_so (by decide) (wpAny_bind (check_bound_init F.excBase_ValueError.toExcCallFacts cl he rfl (wpAny_bind (wpAny_pure (wpAny_pure ⟨plainId_quiet F.excBase_ValueError.init.plain _, codeAny_builtin F.excBase_ValueError.initEntry ?_⟩)))))
  exact exc_init_tree (cls := .ref C) (t0 := t0) (dv := none) (c2 := .none) (c3 := .none) (b4 := .bool false) he hrest fun h' k e' t' => hq h' _ k e'
theorem mc_eq {ob : Expr} {nme : Str} {vs : List Expr} {a3 a8 a9 : Pos} {env : Env} (hl : (a3.endLine == a9.line) = true) : eval (.Call (.Attribute ob nme a3) [.JoinedStr vs a8] [] a9) env = (do
    let ov ← attributeBase ob nme env (eval ob env)
    standAt a3.atName
    let (f, first) ← holding [ov] (getMethod ov nme (do return (← importBound ob env).getD true))
    callWith a9 f first (backTo a9 (starEach [.JoinedStr vs a8] env)) []) := by
  rw [arm_eval_Call]
  have e : methodCallForm (([Expr.JoinedStr vs a8] : List Expr).length + ([] : List Keyword).length) (backTo a9 (starEach [.JoinedStr vs a8] env)) (backToKw a9 (keywordEach [] env)) = true := by rfl
  unfold methodCall
  rw [e]
  unfold calleeOf methodCallPos
  rw [hl]
  rfl
theorem log_small {i : Int} (h0 : -(2 ^ 64) < i) (h1 : i < 2 ^ 64) : i.natAbs.log2 < 1920 := Cc.log_small h0 h1
theorem text_bound {i : Int} (h0 : -(2 ^ 64) < i) (h1 : i < 2 ^ 64) : (Str.ofString (toString i)).length ≤ 2000 := by
  have e := int_text_length_le (k := 1920) (by decide) (log_small h0 h1)
  rw [PySem.ofString_length]
  omega
theorem empty_len : Str.empty.length = 0 := by decide +kernel
section
variable {prog : Program} {w : World} {A : Around} {R : Result → Shared → Prop} {s : Shared} {K : Frag} {mg mb : Str → Option Value} {X : Str} {C fI : Addr}
theorem idx_init (T : EiTxt prog K mg X C fI) {x t0 : Addr} {i : Int} {tk0 : Tok} (KX : K.In s.heap) (hlim : s.heap.NoLimit) (hg : s.heap.Ns mainGlobals mg) (hb : s.heap.Ns builtinsNs mb) (hsu : mb "super" = some (.type "super"))
    (hx : s.heap.get? x = some (excO C t0)) (hnx : K.lookup x = none) (hroom : A.depth < recursionLimit) (hi : -(2 ^ 64) < i ∧ i < 2 ^ 64)
    (hq : ∀ h' tk dx, InitEnd s.heap h' x C dx (.int i tk0) → R (.ok (.ret .none)) { s with heap := h', toks := tk }) :
    codeAny (model prog w) A (.call (.ref fI) ⟨[.ref x], [("index", .int i tk0)]⟩) R s := by
  obtain ⟨cc, cda, oc, od, kV, doc, pm, an, ct, osl, qual, t1, t2, p1, p2, a1, a2, a3, a4, a5, a6, a7, a8, a9, a10, b1, b2, b3, b4, cl, ccl, cld, cdd, csl, ccs, vs, file, tf, ho, hcd, hcc, hcda, hvs, hfile, l1, l2, hln⟩ := T.fn
  obtain ⟨nm, q, N, bs, bm, sn, sub, ab, col, dd, k0, k1, k2, k3, k5, hC, hbm⟩ := T.cls
  have hcl : clsIn K C = some { name := nm, bases := bs, mro := .ref C :: bm, ns := N, qualname := q, hasDict := true, slotNames := sn, subclasses := sub, abstract := ab, collection := col, hasDel := false } := by unfold clsIn; rw [hC] <;> rfl
  have hmro : mroIn K C (.ref C) = some true := by
    unfold mroIn
    rw [hcl, Option.bind_some, if_neg (show ¬ (List.isEmpty (Value.ref C :: bm) = true) from Bool.false_ne_true)]
    simp
  have hxC : x ≠ C := fun z => by rw [z, hC] at hnx; cases hnx
  refine ks_codeAny_call_defAt (fd := ksFn "__init__" qual (iA p1 p2) (iB t1 t2 a1 a2 a3 a4 a5 a6 a7 a8 a9 a10 b1 b2 b3 b4) iS .none kV doc pm an (.ref cda) ct cc) (body := iB t1 t2 a1 a2 a3 a4 a5 a6 a7 a8 a9 a10 b1 b2 b3 b4) (binds := [("self", .ref x), ("index", .int i tk0)])
    hroom (KX _ _ ho) rfl hlim (codeRec_of KX hcd) rfl (BindsTo.of_eq (by first | rfl | with_unfolding_all rfl)) (show ∀ y ∈ iS.names, y.2 ≠ .cell by decide) (fun y hy => ?_) (fun h₀ hns hk => ?_)
  · rcases (List.mem_cons.mp hy) with rfl | hy
    · rfl
    · rw [List.mem_singleton.mp hy]
      rfl
  · have KX₀ : K.In h₀ := KX.keeps hk
    have hns' := hns
    have hself : ([("self", .ref x), ("index", .int i tk0)] : List (Str × Value)).reverse.lookup ("self" : Str) = some (Value.ref x) := by first | rfl | with_unfolding_all rfl | kernel_rfl
    have hidx : ([("self", .ref x), ("index", .int i tk0)] : List (Str × Value)).reverse.lookup ("index" : Str) = some (Value.int i tk0) := by first | rfl | with_unfolding_all rfl | kernel_rfl
    refine ks_wpAt_execs_cons (ks_wpAt_Expr_any (ks_wpAt_MethodCall ?_ (mc_eq hln)))
    refine ks_wpAt_super_base (f := fI) (cc := cda) (of := _) (oc := _) (vs := vs) (file := file) (tf := tf) rfl rfl (by decide) rfl (KX₀ _ _ ho) rfl rfl rfl (KX₀ _ _ hcda) rfl hvs hfile T.htop ?_
    refine ks_loadName_global rfl rfl (loadGlobal_builtin (hg.keeps hk) T.nsu (hb.keeps hk) hsu ⟨rfl, ?_⟩)
    refine wpAny_loadName_free rfl rfl rfl ⟨_, KX₀ _ _ hcc, rfl⟩ ?_
    refine wpAny_loadName_local rfl rfl hns hself ?_
    refine ks_wpAny_isType_cls (KX₀ _ _ hC) rfl ⟨rfl, ?_⟩
    refine ks_wpAny_call_super (KX₀ _ _ hC) rfl (hk _ _ hx) rfl (fun c z => nomatch z) (looks_mroIn KX₀ hmro) (fun h₁ e₁ kk₁ => ?_)
    have KX₁ : K.In h₁ := KX₀.keeps kk₁
    have hx₁ : h₁.get? x = some (excO C t0) := kk₁ _ _ (hk _ _ hx)
    have I₁ : InstAt h₁ x (excO C t0) C none := ⟨hx₁, rfl, rfl, trivial⟩
    have hso := e₁
    have hIV : Looks (model prog w) h₁ (isInstance (.ref x) (.type "ValueError")) true := I₁.type.andThen (looks_subIn KX₁ T.sve)
    have hsup : alongIn K "__init__" (((Value.ref C :: bm).dropWhile (· != .ref C)).drop 1) = some (some (.builtin "ValueError.__init__")) := by
      have z := T.sup
      unfold ks_superIn at z
      rw [hcl] at z
      exact z
    refine kxs_getMethod kxs_ValueError hso (looks_opaque KX₁ T.opq) (l₀ := .ref C :: bm) (fun A Q E s k q => wpAny_bind ((looks_clsIn KX₁ hcl) A _ E s k (wpAny_pure q))) rfl KX₁ hsup hIV hxC (by decide) ?_
    have k₂ : ∀ b o, h₁.get? b = some o → (h₁.push (kxs_mw "ValueError.__init__" x)).get? b = some o := fun b o e => Heap.get?_push_of_some _ e
    refine kxs_callWith (i := "ValueError.__init__") (x := x) rfl (evalArgs_plain (spliced_cons ?_))
    have li := text_bound hi.1 hi.2
    refine JoinedStr_many (pos := a8) (joinParts_cons ?_)
    refine wpAny_Constant_str (k := 0) (pos := a4) ⟨?_, joinParts_cons ?_⟩
    · simp only [Str.length_append, sizeLine_eq, empty_len]
      omega
    refine FormattedValue_plain (pos := a6) (ldC (pos := a5) (hns.keeps fun b o e => k₂ b o (kk₁ b o e)) hidx (formatField_int_small (log_small hi.1 hi.2) ⟨?_, joinParts_cons ?_⟩))
    · simp only [Str.length_append, sizeLine_eq, empty_len]
      omega
    refine wpAny_Constant_str (k := 0) (pos := a7) ⟨?_, joinParts_nil ?_ ?_⟩
    · simp only [Str.length_append, sizeLine_eq, empty_len]
      omega
    · refine spliced_nil ⟨Heap.get?_push_at rfl rfl, ?_⟩
      refine call_mw (p := ⟨nm, q, N, bs, bm, sub, true, sn, ab, col, dd, k0, k1, k2, k3, k5⟩) (k₂ _ _ (KX₁ _ _ hC)) (k₂ _ _ hx₁) (Heap.get?_push_at rfl rfl) (by show 1 ≤ sizeLine; rw [sizeLine_eq]; decide) (fun h₃ t3 k₃ hx₃ => ?_)
      have kk : ∀ b o, b ≠ x → s.heap.get? b = some o → h₃.get? b = some o := fun b o hb e => k₃ b o hb (k₂ b o (kk₁ b o (hk b o e)))
      have KX₃ : K.In h₃ := fun b o e => kk b o (fun z => by rw [z] at e; rw [e] at hnx; cases hnx) (KX b o e)
      have hLx : s.heap.objs.size ≠ x := Nat.ne_of_gt (Heap.lt_size hx)
      obtain ⟨oL, esL, epL, hoL, rL⟩ := hns
      have hns₃ : h₃.Ns s.heap.objs.size (fun y => ([("self", .ref x), ("index", .int i tk0)] : List (Str × Value)).reverse.lookup y) := ⟨oL, esL, epL, k₃ _ _ hLx (k₂ _ _ (kk₁ _ _ hoL)), rL⟩
      refine ks_wpAt_execs_cons (wpAt_of_wpAny (plainObj_wpAny_Assign_Attribute ?_))
      refine ldC hns₃ hidx (ldC hns₃ hself ?_)
      refine set_plain KX₃ (ox := excO C t3) (od := none) ⟨hx₃, rfl, rfl, trivial⟩ T.sa ?_
      refine exc_osa KX₃ hx₃ hcl (show refsVE (.ref C :: bm) = true from hbm) rfl T.noN (fun h₄ tk₄ dx k₄ dn dne hx₄ hn₄ => ?_)
      refine wpAt_of_wpAny (wpAny_execs_nil (hq h₄ tk₄ dx ⟨fun b o hb e => k₄ b o hb (kk b o hb e), ⟨_, hx₄⟩, ?_, dne, hn₄⟩))
      have z : s.heap.objs.size < h₃.objs.size := Heap.lt_size (k₃ _ _ hLx (k₂ _ _ (kk₁ _ _ hoL)))
      exact Nat.le_of_lt (Nat.lt_of_lt_of_le z dn)
    · simp only [Str.length_append, sizeLine_eq, empty_len]
      omega
end
end EiX
end PySem

/-! X(index = e), an own error made. -/
namespace PySem
namespace EiX
open PySem.W PySem.Calls PyProof.Rows PySem.HandSPX
/-- a made error -/
structure OwnMade (h h' : Heap) (e C d : Addr) (v : Value) : Prop where
  keep : ∀ b o, h.get? b = some o → h'.get? b = some o
  new : h.objs.size ≤ e
  obj : ∃ oe vs, h'.get? e = some oe ∧ oe.cls = .ref C ∧ oe.dict = some d ∧ oe.data = .fields vs ∧ vs[1]? = some .none
  dbig : h.objs.size ≤ d
  dne : d ≠ e
  ns : h'.Ns1 d (fun y => if y = "index" then some v else none)
section
variable {prog : Program} {w : World} {A : Around} {R : Result → Shared → Prop} {s : Shared} {K : Frag} {mg mb : Str → Option Value} {X : Str} {C fI : Addr}
theorem idx_made (T : EiTxt prog K mg X C fI) {i : Int} {tk0 : Tok} (KX : K.In s.heap) (hlim : s.heap.NoLimit) (hg : s.heap.Ns mainGlobals mg) (hb : s.heap.Ns builtinsNs mb) (hsu : mb "super" = some (.type "super")) (hroom : A.depth + 1 < recursionLimit) (hi : -(2 ^ 64) < i ∧ i < 2 ^ 64)
    (hq : ∀ h' tk e d, OwnMade s.heap h' e C d (.int i tk0) → R (.ok (.ret (.ref e))) { s with heap := h', toks := tk }) :
    codeAny (model prog w) A (.call (.ref C) ⟨[], [("index", .int i tk0)]⟩) R s := by
  obtain ⟨nm, q, N, bs, bm, sn, sub, ab, col, dd, k0, k1, k2, k3, k5, hC, hbm⟩ := T.cls
  obtain ⟨hp, g, dr, tk, os⟩ := s
  have k : ∀ b o, hp.get? b = some o → ((hp.push (kdv_tup [])).push (excO C hp.objs.size)).get? b = some o := fun b o e => Heap.get?_push_of_some _ (Heap.get?_push_of_some _ e)
  have hget : ((hp.push (kdv_tup [])).push (excO C hp.objs.size)).get? (hp.objs.size + 1) = some (excO C hp.objs.size) := by heap_get
  have hnx : K.lookup (hp.objs.size + 1) = none := by
    cases e : K.lookup (hp.objs.size + 1) with
    | none => rfl
    | some o =>
      have z : hp.get? (hp.objs.size + 1) = some o := KX _ _ e
      exact absurd (Nat.lt_of_succ_lt (Heap.lt_size z)) (Nat.lt_irrefl _)
  refine made_run (p := ⟨nm, q, N, bs, bm, sub, true, sn, ab, col, dd, k0, k1, k2, k3, k5⟩) hbm (KX _ _ hC) (looks_findIn KX T.iC) (fun self => bind_fn KX self T.tC) ?_
  refine idx_init (s := ⟨(hp.push (kdv_tup [])).push (excO C hp.objs.size), g, dr, tk, os⟩) T (KX.keeps k) (hlim.keeps k) (hg.keeps k) (hb.keeps k) hsu hget hnx ?_ hi fun h' tk' dx ⟨k', ⟨t1, hx⟩, dn, dne, hns⟩ => ?_
  · show A.depth + 1 < recursionLimit
    exact hroom
  · have old : ∀ b o, hp.get? b = some o → h'.get? b = some o := fun b o e => k' b o (Nat.ne_of_lt (Nat.lt_succ_of_lt (Heap.lt_size e))) (k b o e)
    have z : hp.objs.size + 1 + 1 ≤ dx := by
      first
        | (simpa only [Heap.size_push] using dn)
        | exact dn
        | (have q := dn; rw [Heap.size_push, Heap.size_push] at q; exact q)
    exact ⟨rfl, hq h' tk' (hp.objs.size + 1) dx ⟨old, Nat.le_succ _, ⟨_, _, hx, rfl, rfl, rfl, rfl⟩, Nat.le_trans (Nat.le_trans (Nat.le_succ _) (Nat.le_succ _)) z, dne, hns⟩⟩
end
end EiX
end PySem
namespace Cc
open PySem PySem.Spec PyProof.Rows L2
theorem relO_idx {v : V} {v' : Value} (r : RelV v v') (f : Str) : RelO (List.lookup f [(("index" : Str), v)]) (if f = "index" then some v' else none) := by
  by_cases hw : f = "index"
  · subst hw
    rw [if_pos rfl]
    have q : List.lookup ("index" : Str) [(("index" : Str), v)] = some v := by simp [List.lookup]
    rw [q]
    exact r
  · rw [if_neg hw]
    have qw : (f == ("index" : Str)) = false := by simpa using hw
    have q2 : List.lookup f [(("index" : Str), v)] = none := by simp [List.lookup, qw]
    rw [q2]
    trivial
/-- X(index = e) -/
def tMkIdx (C : Addr) (ta : TA) : L2.St → Hp → XK → Prop := fun σ H Q => ta σ H fun vs H1 => ∃ i : Int, vs = [.int i] ∧ (-(2 ^ 64) < i ∧ i < 2 ^ 64) ∧ ∀ d, H1 d = none → Q (.ref C) (some d) (upd H1 d (.xd [(("index" : Str), .int i)]))
section
variable {X : Cx}
theorem pmk_idx {x : Str} {C fI : Addr} {e : Expr} {te : TE} {p kpos pos : Pos} {k : Nat} (T : PySem.EiX.EiTxt X.prog X.K X.mg x C fI) (hr : Room k X.A) (he : PE X e te) (hg : Gl X x) (hdb : (x == ("__debug__" : Str)) = false := by decide)
    (hall : (backToKw pos (keywordEach [⟨some "index", e, kpos⟩] X.env)).all (·.1.isSome) = true := by rfl) (hks : (backToKw pos (keywordEach [⟨some "index", e, kpos⟩] X.env)).filterMap (·.1) = [("index" : Str)] := by rfl)
    (hpl : ((backTo pos (starEach [] X.env)).any (·.1) || (backToKw pos (keywordEach [⟨some "index", e, kpos⟩] X.env)).any (·.1.isNone)) = false := by rfl) :
    PMk X (.Call (.Name x p) [] [⟨some "index", e, kpos⟩] pos) (tMkIdx C (tCons te tNil)) := by
  intro pins s σ H Q I h
  refine wpAny_Call_Name_kw (ld_glob I hg T.at_ ?_ hdb)
  refine PySem.W.callWith_KW0 (h₀ := X.base) I.ok.mod.kin T.kp hall ?_ hpl
  refine thn ((pk_cons he pk_nil).run pos pins s σ H _ I h) fun ws s1 ⟨vs, H1, I1, r1, i, ev, hi, q1⟩ => ⟨I1.kIn, ?_⟩
  subst ev
  rw [hks]
  cases r1 with
  | cons rv rn =>
    rename_i v' us'
    cases rn
    obtain ⟨tk0, rfl⟩ := rv
    show wpAny _ _ (call (.ref C) [] [("index", .int i tk0)]) _ _ _
    have hlim := I1.nolimit
    obtain ⟨mb, hb1, hb2⟩ := I1.mod.blt
    have G := I1.mod.glob.keeps I1.bk
    have B := hb1.keeps I1.bk
    obtain ⟨hp, g, dr, tk, os⟩ := s1
    refine wpAny_call (PySem.EiX.idx_made T I1.kIn hlim G B ((hb2 _ (by decide)).trans (by first | rfl | decide +kernel)) (by have := hr.dp; omega) hi fun h' tk' e d M => ?_)
    show MkP X pins σ Q (.ref e) ⟨h', g, dr, tk', os⟩
    obtain ⟨oe, fv, hoe, hc, hd, hdat, h1⟩ := M.obj
    have hns := M.ns
    obtain ⟨G', g1, g2⟩ := restrict h' fun b => decide (b ≠ e)
    have gk : ∀ b, b ≠ e → G'.get? b = h'.get? b := fun b hb => g1 b (decide_eq_true hb)
    have ge : G'.get? e = none := g2 e (by simp)
    have old : ∀ b o, hp.get? b = some o → G'.get? b = some o := fun b o q => (gk b (Nat.ne_of_lt (Nat.lt_of_lt_of_le (Heap.lt_size q) M.new))).trans (M.keep b o q)
    have ob : ObjOk X.prog X.w (upd H1 d (.xd [(("index" : Str), .int i)])) G' d (.xd [(("index" : Str), .int i)]) :=
      ⟨_, hns.at (fun o q => (gk d M.dne).trans q), fun f => relO_idx (v := .int i) (v' := .int i tk0) ⟨tk0, rfl⟩ f⟩
    have J : Inv X pins σ (upd H1 d (.xd [(("index" : Str), .int i)])) ⟨G', g, dr, tk', os⟩ := I1.laid (t' := tk') old M.dbig ob
    refine ⟨e, oe, fv, ⟨G', g, dr, tk', os⟩, _, .ref C, some d, rfl, J, fun b o q => ?_, ge, hoe, ⟨hc, hd⟩, hdat, h1, ?_, rfl, I1.bare, raises_own T.sub T.ty, q1 d (I1.hok.fresh M.dbig)⟩
    · by_cases hb : b = e
      · have q' : G'.get? b = some o := q
        rw [hb, ge] at q'; cases q'
      · exact (gk b hb).symm.trans q
    · rw [upd_ne (Ne.symm M.dne)]
      exact I1.hok.fresh M.new
end
end Cc


/-! What meetings show: the places of the chairs, one room's need after the other's. -/
namespace Cc
/-- chairs in the room that was red at first, and carried, behind i steps -/
def yF (c r : Int) (ss : List Stp) (i : Nat) : Int := placeF c (sideF (endT false (ss.take i))) (stepsF c (ss.take i) (r, 0)).1
def tF (c r : Int) (ss : List Stp) (i : Nat) : Int := (stepsF c (ss.take i) (r, 0)).2
theorem tk_more {α : Type} : ∀ {l : List α} {i : Nat} {x : α}, l[i]? = some x → l.take (i + 1) = l.take i ++ [x]
  | [], i, x, h => by simp at h
  | a :: l, 0, x, h => by
    have e : a = x := Option.some.inj h
    subst e
    rfl
  | a :: l, i + 1, x, h => by
    have ih := tk_more (l := l) (i := i) (x := x) h
    show a :: l.take (i + 1) = a :: l.take i ++ [x]
    rw [ih]
    rfl
theorem tk_none {α : Type} : ∀ {l : List α} {i : Nat}, l[i]? = none → l.take (i + 1) = l.take i
  | [], i, h => by simp
  | a :: l, 0, h => by simp at h
  | a :: l, i + 1, h => by
    have ih := tk_none (l := l) (i := i) h
    show a :: l.take (i + 1) = a :: l.take i
    rw [ih]
theorem endT_snoc (a : List Stp) (s : Stp) : endT false (a ++ [s]) = (match s with | .turn => !(endT false a) | .meet _ _ => endT false a) := by
  rw [endT_app]
  rfl
section
variable {c r : Int} {ss : List Stp} {i : Nat}
theorem t_zero : tF c r ss 0 = 0 := rfl
theorem y_zero : yF c r ss 0 = r := by
  unfold yF
  simp [endT, sideF, placeF, stepsF]
theorem t_step {s : Stp} (h : ss[i]? = some s) : tF c r ss (i + 1) = tF c r ss i + (stepF c s (stepsF c (ss.take i) (r, 0)).1).2 := by
  unfold tF
  rw [tk_more h, stepsF_one]
theorem y_turn (h : ss[i]? = some .turn) : yF c r ss (i + 1) = yF c r ss i ∧ tF c r ss (i + 1) = tF c r ss i := by
  refine ⟨?_, by rw [t_step h]; simp [stepF]⟩
  unfold yF
  rw [tk_more h, stepsF_one, endT_snoc]
  cases endT false (ss.take i) <;> simp [placeF, sideF, stepF] <;> omega
theorem y_meet {b : Bool} {n : Int} (h : ss[i]? = some (.meet b n)) :
    ((b != endT false (ss.take i)) = true → yF c r ss (i + 1) = max (yF c r ss i) n ∧ tF c r ss (i + 1) = tF c r ss i + (yF c r ss (i + 1) - yF c r ss i)) ∧
    ((b != endT false (ss.take i)) = false → yF c r ss (i + 1) = min (yF c r ss i) (c - n) ∧ tF c r ss (i + 1) = tF c r ss i + (yF c r ss i - yF c r ss (i + 1))) := by
  have ht := t_step (c := c) (r := r) h
  unfold yF at *
  rw [tk_more h, stepsF_one, endT_snoc] at *
  generalize (stepsF c (ss.take i) (r, 0)).1 = q at *
  cases b <;> cases endT false (ss.take i) <;> simp [placeF, sideF, stepF, mx] at ht ⊢ <;> omega
theorem y_none (h : ss[i]? = none) : yF c r ss (i + 1) = yF c r ss i ∧ tF c r ss (i + 1) = tF c r ss i := by
  unfold yF tF
  rw [tk_none h]
  exact ⟨rfl, rfl⟩
theorem y_one (i : Nat) : 0 ≤ tF c r ss (i + 1) - tF c r ss i ∧ yF c r ss (i + 1) - yF c r ss i ≤ tF c r ss (i + 1) - tF c r ss i ∧ yF c r ss i - yF c r ss (i + 1) ≤ tF c r ss (i + 1) - tF c r ss i := by
  cases h : ss[i]? with
  | none =>
    obtain ⟨a, b⟩ := y_none (c := c) (r := r) h
    omega
  | some s =>
    cases s with
    | turn =>
      obtain ⟨a, b⟩ := y_turn (c := c) (r := r) h
      omega
    | meet b n =>
      obtain ⟨h1, h2⟩ := y_meet (c := c) (r := r) h
      cases e : (b != endT false (ss.take i)) with
      | true =>
        have := h1 e
        omega
      | false =>
        have := h2 e
        omega
theorem y_far : ∀ (k i : Nat), 0 ≤ tF c r ss (i + k) - tF c r ss i ∧ yF c r ss (i + k) - yF c r ss i ≤ tF c r ss (i + k) - tF c r ss i ∧ yF c r ss i - yF c r ss (i + k) ≤ tF c r ss (i + k) - tF c r ss i
  | 0, i => by simp
  | k + 1, i => by
    have h1 := y_far k i
    have h2 := y_one (c := c) (r := r) (ss := ss) (i + k)
    rw [← Nat.add_assoc]
    omega
end
/-- the room of a step as such, its need -/
def roomA (ss : List Stp) (x : Int) : Option (Option Bool) := (roomsF false ss)[x.toNat]?
def needA (ss : List Stp) (x : Int) : Int := match ss[x.toNat]? with
  | some (.meet _ n) => n
  | _ => 0
theorem rooms_atE : ∀ (ss : List Stp) (t : Bool) (i : Nat), (roomsF t ss)[i]? = (ss[i]?).map fun s => match s with | .turn => none | .meet b _ => some (b != endT t (ss.take i))
  | [], t, i => by simp [roomsF]
  | .turn :: ss, t, 0 => rfl
  | .meet b n :: ss, t, 0 => rfl
  | .turn :: ss, t, i + 1 => rooms_atE ss (!t) i
  | .meet b n :: ss, t, i + 1 => rooms_atE ss t i
theorem room_meet {ss : List Stp} {x : Int} {p : Bool} (h : roomA ss x = some (some p)) : ∃ b n, ss[x.toNat]? = some (.meet b n) ∧ (b != endT false (ss.take x.toNat)) = p ∧ needA ss x = n := by
  unfold roomA at h
  rw [rooms_atE] at h
  unfold needA
  cases e : ss[x.toNat]? with
  | none => exact (by rw [e] at h; cases h)
  | some s =>
    rw [e] at h
    cases s with
    | turn => cases h
    | meet b n =>
      have h' := Option.some.inj (Option.some.inj h)
      exact ⟨b, n, rfl, h', rfl⟩
/-! ### lists of indexes -/
def lastI (f : List Int) : Int := f.getLast?.getD (-1)
/-- x may stand behind f -/
def okNow (ss : List Stp) (f : List Int) (x : Int) : Prop := (lastI f + 1 ≤ x ∧ x ≤ (ss.length : Int) - 1) ∧ ∃ p, roomA ss x = some (some p) ∧ ∀ y, f.getLast? = some y → roomA ss y ≠ some (some p)
def GdL (ss : List Stp) (xs : List Int) : Prop := ∀ k x, xs[k]? = some x → okNow ss (xs.take k) x
theorem gd_nil {ss : List Stp} : GdL ss [] := fun k x h => by simp at h
theorem gd_snoc {ss : List Stp} {f : List Int} {x : Int} (h : GdL ss f) (hx : okNow ss f x) : GdL ss (f ++ [x]) := fun k y e => by
  by_cases hk : k < f.length
  · rw [List.getElem?_append_left hk] at e
    rw [List.take_append_of_le_length (Nat.le_of_lt hk)]
    exact h k y e
  · have hk' : k = f.length := by
      have := (List.getElem?_eq_some_iff.mp e).1
      rw [List.length_append] at this
      have : k < f.length + 1 := this
      omega
    subst hk'
    rw [List.getElem?_append_right (Nat.le_refl _), Nat.sub_self] at e
    have e' : x = y := Option.some.inj e
    subst e'
    rw [List.take_left]
    exact hx
theorem gd_app {ss : List Stp} {f g : List Int} (h : GdL ss (f ++ g)) : GdL ss f := fun k x e => by
  have hk := (List.getElem?_eq_some_iff.mp e).1
  have := h k x (by rw [List.getElem?_append_left hk]; exact e)
  rw [List.take_append_of_le_length (Nat.le_of_lt hk)] at this
  exact this
theorem gd_last {ss : List Stp} {f : List Int} {x : Int} (h : GdL ss (f ++ [x])) : okNow ss f x := by
  have := h f.length x (by rw [List.getElem?_append_right (Nat.le_refl _), Nat.sub_self]; rfl)
  rw [List.take_left] at this
  exact this
/-- what indexes show: the sum, the last one -/
def jS (c r : Int) (ss : List Stp) (p : Int × Option Int) (x : Int) : Int × Option Int :=
  (p.1 + (needA ss x - (match p.2 with | none => (if roomA ss x = some (some true) then r else c - r) | some y => c - needA ss y)), some x)
def jT (c r : Int) (ss : List Stp) (xs : List Int) : Int × Option Int := xs.foldl (jS c r ss) (0, none)
theorem jT_snoc (c r : Int) (ss : List Stp) (f : List Int) (x : Int) : jT c r ss (f ++ [x]) = jS c r ss (jT c r ss f) x := by
  unfold jT
  rw [List.foldl_append]
  rfl
theorem split_last : ∀ (f : List Int), f = [] ∨ ∃ g x, f = g ++ [x]
  | [] => .inl rfl
  | a :: f => by
    rcases split_last f with rfl | ⟨g, x, rfl⟩
    · exact .inr ⟨[], a, rfl⟩
    · exact .inr ⟨a :: g, x, rfl⟩
theorem jT_last (c r : Int) (ss : List Stp) (f : List Int) : (jT c r ss f).2 = f.getLast? := by
  rcases split_last f with rfl | ⟨g, x, rfl⟩
  · rfl
  · rw [jT_snoc, List.getLast?_append]
    rfl
theorem last_snoc (f : List Int) (x : Int) : (f ++ [x]).getLast? = some x := by
  rw [List.getLast?_append]
  rfl
theorem lastI_snoc (f : List Int) (x : Int) : lastI (f ++ [x]) = x := by
  unfold lastI
  rw [last_snoc]
  rfl
theorem lastI_ge {ss : List Stp} {f : List Int} (h : GdL ss f) : -1 ≤ lastI f := by
  have : ∀ (n : Nat) (f : List Int), f.length = n → GdL ss f → -1 ≤ lastI f := fun n => by
    induction n with
    | zero =>
      intro f hn h
      rw [List.length_eq_zero_iff.mp hn]
      exact Int.le_refl _
    | succ n ih =>
      intro f hn h
      rcases split_last f with rfl | ⟨g, x, rfl⟩
      · exact Int.le_refl _
      · rw [lastI_snoc]
        have := (gd_last h).1.1
        have := ih g (by rw [List.length_append] at hn; exact Nat.succ.inj hn) (gd_app h)
        omega
  exact this _ f rfl h
section
variable {c r : Int} {ss : List Stp}
/-- behind a meeting its room has enough -/
theorem y_enough {x : Int} {p : Bool} (h : roomA ss x = some (some p)) : (p = true → needA ss x ≤ yF c r ss (x.toNat + 1)) ∧ (p = false → needA ss x ≤ c - yF c r ss (x.toNat + 1)) := by
  obtain ⟨b, n, e, ep, en⟩ := room_meet h
  obtain ⟨h1, h2⟩ := y_meet (c := c) (r := r) e
  rw [en]
  constructor
  · intro q
    have := (h1 (ep.trans q)).1
    omega
  · intro q
    have := (h2 (ep.trans q)).1
    omega
/-- no indexes show more than is carried -/
theorem judged_le : ∀ (n : Nat) (f : List Int), f.length = n → GdL ss f → (∀ x, f.getLast? = some x → (jT c r ss f).1 ≤ tF c r ss (x.toNat + 1)) ∧ (f = [] → (jT c r ss f).1 = 0)
  | 0, f, hn, h => by
    have : f = [] := List.length_eq_zero_iff.mp hn
    subst this
    exact ⟨fun x e => (nomatch e), fun _ => rfl⟩
  | n + 1, f, hn, h => by
    rcases split_last f with rfl | ⟨g, x, rfl⟩
    · cases hn
    · refine ⟨fun z e => ?_, fun e => by simp at e⟩
      rw [last_snoc] at e
      have e' : x = z := Option.some.inj e
      subst e'
      have hg := gd_app h
      obtain ⟨⟨k1, k2⟩, p, hp, hne⟩ := gd_last h
      have ih := judged_le n g (by rw [List.length_append] at hn; exact Nat.succ.inj hn) hg
      obtain ⟨en1, en2⟩ := y_enough (c := c) (r := r) hp
      rw [jT_snoc]
      unfold jS
      rw [jT_last]
      rcases split_last g with rfl | ⟨g', y, rfl⟩
      · have z := ih.2 rfl
        have far := y_far (c := c) (r := r) (ss := ss) (x.toNat + 1) 0
        rw [Nat.zero_add, y_zero, t_zero] at far
        rw [z]
        show 0 + (needA ss x - (if roomA ss x = some (some true) then r else c - r)) ≤ _
        rw [hp]
        cases p with
        | true =>
          have := en1 rfl
          rw [if_pos rfl]
          omega
        | false =>
          have := en2 rfl
          rw [if_neg (by simp)]
          omega
      · have z := ih.1 y (last_snoc _ _)
        rw [last_snoc] at *
        have hne' := hne y rfl
        obtain ⟨_, q, hq, _⟩ := gd_last hg
        obtain ⟨em1, em2⟩ := y_enough (c := c) (r := r) hq
        rw [lastI_snoc] at k1
        obtain ⟨⟨ky, _⟩, _⟩ := gd_last hg
        have yn : (0 : Int) ≤ y := by
          have : -1 ≤ lastI g' := by
            rcases split_last g' with rfl | ⟨g2, y2, rfl⟩
            · exact Int.le_refl _
            · rw [lastI_snoc]
              have := (gd_last (gd_app hg)).1.1
              have l2 := lastI_ge (gd_app (gd_app hg))
              omega
          omega
        have far := y_far (c := c) (r := r) (ss := ss) (x.toNat - y.toNat) (y.toNat + 1)
        have ei : y.toNat + 1 + (x.toNat - y.toNat) = x.toNat + 1 := by omega
        rw [ei] at far
        show (jT c r ss (g' ++ [y])).1 + (needA ss x - (c - needA ss y)) ≤ _
        have pq : p ≠ q := fun e => hne' (by rw [hq, e])
        cases p with
        | true =>
          have q0 : q = false := by cases q <;> simp_all
          have := en1 rfl
          have := em2 q0
          omega
        | false =>
          have q0 : q = true := by cases q <;> simp_all
          have := en2 rfl
          have := em1 q0
          omega
end
/-- the indexes that are found -/
def pushE (ss : List Stp) (f : List Int) (i : Nat) : List Int := (match f.getLast? with | some y => if roomA ss y = roomA ss (i : Nat) then f.dropLast else f | none => f) ++ [((i : Nat) : Int)]
def evF (c r : Int) (ss : List Stp) : Nat → List Int
  | 0 => []
  | i + 1 => if tF c r ss (i + 1) = tF c r ss i then evF c r ss i else pushE ss (evF c r ss i) i
theorem ev_len {c r : Int} {ss : List Stp} : ∀ i : Nat, (evF c r ss i).length ≤ i
  | 0 => Nat.le_refl 0
  | i + 1 => by
    have ih := ev_len (c := c) (r := r) (ss := ss) i
    show (if tF c r ss (i + 1) = tF c r ss i then evF c r ss i else pushE ss (evF c r ss i) i).length ≤ i + 1
    split
    · omega
    · unfold pushE
      rw [List.length_append]
      show _ + 1 ≤ i + 1
      split
      · split
        · rw [List.length_dropLast]
          omega
        · omega
      · omega
/-- what is known behind i steps -/
structure EvI (c r : Int) (ss : List Stp) (i : Nat) (f : List Int) : Prop where
  gd : GdL ss f
  lt : lastI f < (i : Nat)
  sum : (jT c r ss f).1 = tF c r ss i
  at0 : f = [] → yF c r ss i = r
  at1 : ∀ x, f.getLast? = some x → ∃ p, roomA ss x = some (some p) ∧ (p = true → yF c r ss i = needA ss x) ∧ (p = false → yF c r ss i = c - needA ss x)
theorem ev_inv {c r : Int} {ss : List Stp} : ∀ i : Nat, i ≤ ss.length → EvI c r ss i (evF c r ss i)
  | 0, _ => ⟨gd_nil, by show (-1 : Int) < ((0 : Nat) : Int); decide, rfl, fun _ => y_zero, fun x e => nomatch e⟩
  | i + 1, hi => by
    have ih := ev_inv (c := c) (r := r) i (Nat.le_of_succ_le hi)
    obtain ⟨s, hs⟩ : ∃ s, ss[i]? = some s := ⟨_, List.getElem?_eq_getElem hi⟩
    obtain ⟨gd, lt, sum, at0, at1⟩ := ih
    show EvI c r ss (i + 1) (if tF c r ss (i + 1) = tF c r ss i then evF c r ss i else pushE ss (evF c r ss i) i)
    by_cases ht : tF c r ss (i + 1) = tF c r ss i
    · rw [if_pos ht]
      have far := y_far (c := c) (r := r) (ss := ss) 1 i
      have ey : yF c r ss (i + 1) = yF c r ss i := by omega
      exact ⟨gd, by omega, by rw [sum, ht], fun e => by rw [ey]; exact at0 e, fun x e => by rw [ey]; exact at1 x e⟩
    · rw [if_neg ht]
      cases s with
      | turn => exact (ht (y_turn hs).2).elim
      | meet b n =>
        obtain ⟨m1, m2⟩ := y_meet (c := c) (r := r) hs
        have hr : roomA ss (i : Nat) = some (some (b != endT false (ss.take i))) := by
          unfold roomA
          rw [rooms_atE, Int.toNat_natCast, hs]
          rfl
        have hn : needA ss (i : Nat) = n := by
          unfold needA
          rw [Int.toNat_natCast, hs]
        have li : ((i : Nat) : Int) ≤ (ss.length : Int) - 1 := by omega
        generalize (b != endT false (ss.take i)) = p at *
        -- what is new, whatever stays
        have fin : ∀ g : List Int, GdL ss g → lastI g < (i : Nat) → (∀ y, g.getLast? = some y → roomA ss y ≠ some (some p)) → (jT c r ss (g ++ [((i : Nat) : Int)])).1 = tF c r ss (i + 1) → EvI c r ss (i + 1) (g ++ [((i : Nat) : Int)]) := fun g h1 h2 h3 h4 =>
          ⟨gd_snoc h1 ⟨⟨by omega, li⟩, p, hr, h3⟩, by rw [lastI_snoc]; omega, h4, fun e => by simp at e, fun x e => by
            rw [last_snoc] at e
            have e' := Option.some.inj e
            subst e'
            refine ⟨p, hr, fun q => ?_, fun q => ?_⟩
            · have := m1 q
              rw [hn]
              omega
            · have := m2 q
              rw [hn]
              omega⟩
        unfold pushE
        generalize evF c r ss i = f at *
        rcases split_last f with rfl | ⟨g, x, rfl⟩
        · refine fin [] gd lt (fun y e => nomatch e) ?_
          have y0 := at0 rfl
          rw [jT_snoc]
          unfold jS
          rw [jT_last]
          show (jT c r ss []).1 + (needA ss (i : Nat) - (if roomA ss (i : Nat) = some (some true) then r else c - r)) = _
          rw [sum, hr, hn]
          cases p with
          | true =>
            have := m1 rfl
            rw [if_pos rfl]
            omega
          | false =>
            have := m2 rfl
            rw [if_neg (by simp)]
            omega
        · rw [last_snoc] at *
          obtain ⟨q, hq, a1, a2⟩ := at1 x rfl
          rw [lastI_snoc] at lt
          show EvI c r ss (i + 1) ((if roomA ss x = roomA ss (i : Nat) then (g ++ [x]).dropLast else g ++ [x]) ++ [((i : Nat) : Int)])
          obtain ⟨⟨k1, k2⟩, p', hp', hne⟩ := gd_last gd
          have epq : p' = q := by
            rw [hq] at hp'
            exact (Option.some.inj (Option.some.inj hp')).symm
          subst epq
          by_cases e : roomA ss x = roomA ss (i : Nat)
          · rw [if_pos e, List.dropLast_concat]
            have eq : p' = p := by
              rw [hq, hr] at e
              exact Option.some.inj (Option.some.inj e)
            subst eq
            refine fin g (gd_app gd) (by omega) hne ?_
            have s1 := sum
            rw [jT_snoc] at s1 ⊢
            unfold jS at s1 ⊢
            simp only at s1 ⊢
            rw [hq] at s1
            rw [hr, hn]
            generalize (match (jT c r ss g).2 with | none => (if (some (some p') : Option (Option Bool)) = some (some true) then r else c - r) | some y => c - needA ss y) = th at *
            cases p' with
            | true =>
              have := m1 rfl
              have := a1 rfl
              omega
            | false =>
              have := m2 rfl
              have := a2 rfl
              omega
          · rw [if_neg e]
            have ne : p' ≠ p := fun z => e (by rw [hq, hr, z])
            refine fin (g ++ [x]) gd (by rw [lastI_snoc]; exact lt) (fun y ey => ?_) ?_
            · rw [last_snoc] at ey
              have := Option.some.inj ey
              subst this
              rw [hq]
              simp [ne]
            · rw [jT_snoc]
              unfold jS
              rw [jT_last, last_snoc]
              show (jT c r ss (g ++ [x])).1 + (needA ss (i : Nat) - (c - needA ss x)) = _
              rw [sum, hn]
              cases p with
              | true =>
                have := m1 rfl
                have := a2 (by cases p' <;> simp_all)
                omega
              | false =>
                have := m2 rfl
                have := a1 (by cases p' <;> simp_all)
                omega
/-- what is found shows just what is carried -/
theorem ev_found {c r : Int} {ss : List Stp} : GdL ss (evF c r ss ss.length) ∧ (jT c r ss (evF c r ss ss.length)).1 = (stepsF c ss (r, 0)).2 := by
  have h := ev_inv (c := c) (r := r) (ss := ss) ss.length (Nat.le_refl _)
  refine ⟨h.gd, ?_⟩
  rw [h.sum]
  unfold tF
  rw [List.take_length]
/-- never more -/
theorem ev_most {c r : Int} {ss : List Stp} {xs : List Int} (h : GdL ss xs) : max 0 (jT c r ss xs).1 ≤ (stepsF c ss (r, 0)).2 := by
  obtain ⟨h1, h2⟩ := judged_le (c := c) (r := r) _ xs rfl h
  have e : tF c r ss ss.length = (stepsF c ss (r, 0)).2 := by
    unfold tF
    rw [List.take_length]
  have far0 := y_far (c := c) (r := r) (ss := ss) ss.length 0
  rw [Nat.zero_add, t_zero, e] at far0
  rcases split_last xs with rfl | ⟨g, x, rfl⟩
  · rw [h2 rfl]
    omega
  · have := h1 x (last_snoc _ _)
    obtain ⟨⟨k1, k2⟩, _⟩ := gd_last h
    have far := y_far (c := c) (r := r) (ss := ss) (ss.length - (x.toNat + 1)) (x.toNat + 1)
    have lg := lastI_ge (gd_app h)
    by_cases hx : x.toNat + 1 ≤ ss.length
    · have e2 : x.toNat + 1 + (ss.length - (x.toNat + 1)) = ss.length := by omega
      rw [e2, e] at far
      omega
    · omega
end Cc

/-! The evidence: found, checked, judged. -/
namespace Cc
open PySem PySem.Spec PyProof.Rows L2
def spFind (C : Addr) : Sp := fun vs H Q _ => ∃ (p : Addr) (c r : Int) (ss : List Stp), vs = [.ref p, .int c, .int r] ∧ PlanAt C H p ss ∧ 0 ≤ c ∧ c ≤ 1000000000000000000 ∧ (∀ s ∈ ss, s.ok c) ∧ ss.length ≤ 60 ∧ 0 ≤ r ∧ r ≤ c ∧
  ∀ q H', H q = none → Same H H' → H' q = some (.lst ((evF c r ss ss.length).map V.int)) → Q (.ref q) H'
/-- the first index that is wrong -/
def BadAt (ss : List Stp) (xs : List Int) (k : Nat) : Prop := GdL ss (xs.take k) ∧ ∃ x, xs[k]? = some x ∧ ¬ okNow ss (xs.take k) x
def spChkEv : Sp := fun vs H Q _ => ∃ (q l : Addr) (ss : List Stp) (xs : List Int), vs = [.ref q, .ref l] ∧ H q = some (.lst ((roomsF false ss).map roomV)) ∧ H l = some (.lst (xs.map V.int)) ∧ ss.length ≤ 60 ∧ xs.length ≤ 100 ∧ GdL ss xs ∧ ∀ H', Same H H' → Q .non H'
def spChkEvX (CE : Addr) : Sp := fun vs H Q E => ∃ (q l : Addr) (ss : List Stp) (xs : List Int), vs = [.ref q, .ref l] ∧ H q = some (.lst ((roomsF false ss).map roomV)) ∧ H l = some (.lst (xs.map V.int)) ∧ ss.length ≤ 60 ∧ xs.length ≤ 100 ∧
  (GdL ss xs → ∀ H', Same H H' → Q .non H') ∧ ∀ k H' d, BadAt ss xs k → Same H H' → H' d = none → E (.ref CE) (some d) (upd H' d (.xd [(("index" : Str), .int (k : Nat))]))
def spJudge (C : Addr) : Sp := fun vs H Q _ => ∃ (p l : Addr) (c r : Int) (ss : List Stp) (xs : List Int), vs = [.ref p, .int c, .int r, .ref l] ∧ PlanAt C H p ss ∧ 0 ≤ c ∧ c ≤ 1000000000000000000 ∧ (∀ s ∈ ss, s.ok c) ∧ ss.length ≤ 60 ∧ 0 ≤ r ∧ r ≤ c ∧ H l = some (.lst (xs.map V.int)) ∧ xs.length ≤ 100 ∧ GdL ss xs ∧
  ∀ H', Same H H' → Q (.int (mx 0 (jT c r ss xs).1)) H'
def spJudgeX (C CE : Addr) : Sp := fun vs H Q E => ∃ (p l : Addr) (c r : Int) (ss : List Stp) (xs : List Int), vs = [.ref p, .int c, .int r, .ref l] ∧ PlanAt C H p ss ∧ 0 ≤ c ∧ c ≤ 1000000000000000000 ∧ (∀ s ∈ ss, s.ok c) ∧ ss.length ≤ 60 ∧ 0 ≤ r ∧ r ≤ c ∧ H l = some (.lst (xs.map V.int)) ∧ xs.length ≤ 100 ∧
  (GdL ss xs → ∀ H', Same H H' → Q (.int (mx 0 (jT c r ss xs).1)) H') ∧ ∀ k H' d, BadAt ss xs k → Same H H' → H' d = none → E (.ref CE) (some d) (upd H' d (.xd [(("index" : Str), .int (k : Nat))]))
theorem at_neg1 {xs : List V} {v : V} : atI (xs ++ [v]) (-1) = some v := by
  unfold atI ixN
  have l : (xs ++ [v]).length = xs.length + 1 := by rw [List.length_append]; rfl
  rw [if_neg (by decide), if_pos (by rw [l]; omega)]
  show (xs ++ [v])[_]? = some v
  have e : (-1 + ((xs ++ [v]).length : Int)).toNat = xs.length := by
    rw [l]
    omega
  rw [e, List.getElem?_append_right (Nat.le_refl _), Nat.sub_self]
  rfl
theorem gd_take {ss : List Stp} {xs : List Int} (h : GdL ss xs) (k : Nat) : GdL ss (xs.take k) := gd_app (g := xs.drop k) (by rw [List.take_append_drop]; exact h)
theorem roomS_inj {a b : Bool} (h : roomS a = roomS b) : a = b := by
  cases a <;> cases b <;> first | rfl | (exfalso; revert h; decide)
section
variable {P : Program} {w : World} {K : PySem.W.Frag} {mg : Str → Option Value} {base : Heap} {C TU pS gS : Addr} {mc : Value}
abbrev s_find_evidence : Stmt := top 46
abbrev n_find_evidence : List Str := ["plan", "chairs", "start", "rooms", "found", "red", "index", "step", "carried"]
theorem sc_find_evidence : FnScope n_find_evidence ["plan", "chairs", "start"] (defScope s_find_evidence) := ⟨rfl, rfl, rfl, by decide +kernel, rfl, by decide +kernel, by decide +kernel⟩
theorem ok_find_evidence {f f_check_start f_first_rooms f_after_step : Addr} {fd fdS : FuncData} (F : Fun K "find_evidence" "find_evidence" s_find_evidence f fd) (T : Txt K mg C TU pS gS mc) (G : Gs P w K mg base C gS fdS) (D_check_start : Dn P w K mg base 4 "check_start" f_check_start (spChkStart C)) (D_first_rooms : Dn P w K mg base 1 "first_rooms" f_first_rooms (spFRooms K)) (D_after_step : Dn P w K mg base 1 "after_step" f_after_step spAStep) : FnOk P w K mg base CX0 5 f fd ["plan", "chairs", "start"] (spFind C) := by
  refine F.ok sc_find_evidence (fun vs H Q E h => ?_) (fun cdv A outer s H vs Q E hr h => ?_)
  · obtain ⟨p, c, r, ss, rfl, _⟩ := h
    rfl
  · obtain ⟨p, c, r, ss, rfl, hp, c0, c1, hs, hl, r0, r1, k⟩ := h
    refine ⟨_, pss_cons (ps_expr (pe_callR D_check_start.ok (hr.mono (by decide)) rfl D_check_start.at_ D_check_start.kp pass0 (pa_cons (pv 0) (pa_cons (pv 1) (pa_cons (pv 2) pa_nil)))))
      (pss_cons (ps_set (i := 3) sc_find_evidence.nd rfl (.inl rfl) (pe_callR D_first_rooms.ok (hr.mono (by decide)) rfl D_first_rooms.at_ D_first_rooms.kp pass0 (pa_cons (pe_prop (pv 0) T.cl T.pr G.ok (hr.mono (by decide)) G.b .nil pass0 rfl) pa_nil)))
      (pss_cons (ps_set (i := 4) sc_find_evidence.nd rfl (.inl rfl) (pe_lst pa_nil))
      (pss_cons (ps_set (i := 5) sc_find_evidence.nd rfl (.inl rfl) (pv 2))
      (pss_cons (ps_for PassesOwn.never rfl (pi_enumT (by rfl) T.b.enumerate (pa_cons (pe_prop (pv 0) T.cl T.pr G.ok (hr.mono (by decide)) G.b .nil pass0 rfl) pa_nil)) (pg_tup rfl (pgs_cons (pg_name (i := 6) sc_find_evidence.nd rfl (.inl rfl)) (pgs_cons (pg_name (i := 7) sc_find_evidence.nd rfl (.inl rfl)) pgs_nil)))
        (pss_cons (ps_asg (pe_callR D_after_step.ok (hr.mono (by decide)) rfl D_after_step.at_ D_after_step.kp pass0 (pa_cons (pv 7) (pa_cons (pv 1) (pa_cons (pv 5) pa_nil)))) (pg_tup rfl (pgs_cons (pg_name (i := 5) sc_find_evidence.nd rfl (.inl rfl)) (pgs_cons (pg_name (i := 8) sc_find_evidence.nd rfl (.inl rfl)) pgs_nil))))
        (pss_cons (ps_if (pt_cmpR op_eq (pv 8) pe_int (nomark _))
          (pss_one ps_continue) pss_nil)
        (pss_cons (ps_if (PW.pt (pw_and (pt_cmpR op_gt (pe_callB call_len_seq (by rfl) T.b.len PySem.boot_len (pa_cons (pv 4) pa_nil)) pe_int (nomark _)) (pw_and1 (pt_cmpR op_eq (pe_ix ix_list (pv 3) (pe_ix ix_list (pv 4) (pe_un un_neg pe_int) (fun _ _ => rfl)) (fun _ _ => rfl)) (pe_ix ix_list (pv 3) (pv 6) (fun _ _ => rfl)) (nomark _)))))
          (pss_one (ps_expr (pe_bm0 PySem.F.plainAttrs_list PySem.F.slot_list_pop PySem.F.type_list_pop mt_pop (pv 4)))) pss_nil)
        (pss_one (ps_expr (pe_bm PySem.F.plainAttrs_list PySem.F.slot_list_append PySem.F.type_list_append mt_append (pv 4) (pa_cons (pv 6) pa_nil))))))))
      (pss_one (ps_ret (pv 4))))))), ?_⟩
    refine ⟨_, rfl, _, rfl, _, rfl, p, c, r, ss, rfl, hp, c0, c1, hs, hl, r0, r1, fun H1 s1 => ?_⟩
    have hp1 := hp.same s1
    obtain ⟨dx, tp, ws, e1, e2, e3, e4⟩ := hp1.tup (K := K)
    refine ⟨_, rfl, p, dx, _, rfl, e1, p, dx, _, _, rfl, e1, lk_self, tp, ws, ss, rfl, e2, e3, e4, by omega, fun q H2 hq s2 g2 => ?_⟩
    refine ⟨by show 0 ≤ sizeLine; decide, fun f hf => ⟨_, rfl, ?_⟩⟩
    have hfH : H f = none := by
      cases e : H f with
      | none => rfl
      | some o => rw [s2 _ _ (s1 _ _ e)] at hf; cases hf
    have nqf : q ≠ f := ne_of_none g2 hf
    have s3 := same_upd (o := .lst []) hf
    have s23 := s2.trans s3
    refine ⟨_, rfl, p, dx, _, rfl, s23 _ _ e1, p, dx, _, _, rfl, s23 _ _ e1, lk_self, tp, ws, rfl, e3 _ s23, ?_⟩
    refine for_it (walk_enumT (xs := ws)) (fun i σ H' => ∃ x y z, σ = [some (.ref p), some (.int c), some (.int r), some (.ref q), some (.ref f), some (.int (stepsF c (ss.take i) (r, 0)).1), x, y, z] ∧ Same H2 H' ∧ H' f = some (.lst ((evF c r ss i).map V.int)))
      ⟨none, none, none, rfl, s3, upd_same⟩ (fun i σ H' _ ⟨_, _, _, _, s4, _⟩ => e3 _ (s2.trans s4)) ?_ ?_
    · rintro i x σ Ha Hb hi ⟨a, b, d, rfl, s4, gf⟩ ⟨t, y1, y2, rfl, n1, rfl, z1, z2⟩
      obtain ⟨st, hst, u, rfl, hu0⟩ := e4.get z2
      have il : i < ss.length := (List.getElem?_eq_some_iff.mp hst).1
      have ey1 : y1 = .int (i : Nat) := by rw [← Option.some.inj z1]
      subst ey1
      have s5 : Same H2 (upd Ha t (.tup [.int (i : Nat), .ref u])) := s4.trans (same_upd n1)
      have gf5 := (same_upd (o := .tup [.int (i : Nat), .ref u]) n1) _ _ gf
      refine ⟨t, _, rfl, SqT.of upd_same, rfl, _, _, rfl, _, _, rfl, rfl, ?_⟩
      refine ⟨_, rfl, _, rfl, _, rfl, .ref u, st, c, _, rfl, ⟨u, rfl, s5 _ _ (s2 _ _ hu0)⟩, fun t2 H3 s6 e6 => ⟨t2, _, rfl, SqT.of e6, rfl, _, _, rfl, _, _, rfl, rfl, ?_⟩⟩
      have s7 := s5.trans s6
      have gf7 := s6 _ _ gf5
      have gq7 := s7 _ _ g2
      have ht := t_step (c := c) (r := r) hst
      have et : (stepsF c (ss.take (i + 1)) (r, 0)).1 = (stepF c st (stepsF c (ss.take i) (r, 0)).1).1 := by rw [take_more hst, stepsF_one]
      refine ⟨_, rfl, rfl, _, rfl, ?_⟩
      by_cases cz : (stepF c st (stepsF c (ss.take i) (r, 0)).1).2 = 0
      · refine ifT (by rw [cz]; exact decide_eq_true rfl) ⟨_, _, _, by rw [et]; rfl, s7, ?_⟩
        have e0 : evF c r ss (i + 1) = evF c r ss i := by
          show (if tF c r ss (i + 1) = tF c r ss i then evF c r ss i else pushE ss (evF c r ss i) i) = _
          rw [if_pos (by omega)]
        rw [e0]
        exact gf7
      · refine ifF (decide_eq_false fun e => cz (by injection e)) ?_
        have ev1 : evF c r ss (i + 1) = pushE ss (evF c r ss i) i := by
          show (if tF c r ss (i + 1) = tF c r ss i then evF c r ss i else pushE ss (evF c r ss i) i) = _
          rw [if_neg (by omega)]
        have ri := rooms_atE ss false i
        rw [hst] at ri
        have ein := ev_inv (c := c) (r := r) (ss := ss) i (Nat.le_of_lt il)
        have lim : (evF c r ss i).length ≤ i := ev_len i
        -- the index goes in
        have fin : ∀ (g : List Int) (Hc : Hp), Same H2 Hc → Hc f = some (.lst (g.map V.int)) → g ++ [((i : Nat) : Int)] = evF c r ss (i + 1) → Same H2 (upd Hc f (.lst (g.map V.int ++ [.int (i : Nat)]))) ∧ (upd Hc f (.lst (g.map V.int ++ [.int (i : Nat)]))) f = some (.lst ((evF c r ss (i + 1)).map V.int)) := fun g Hc sc gc eg =>
          ⟨fun b o e => by rw [upd_ne (ne_of_none e hf)]; exact sc b o e, upd_lst (by rw [← eg, List.map_append]; rfl)⟩
        refine ⟨_, rfl, f, _, rfl, .inl (SqL.of gf7), _, _, rfl, rfl, _, rfl, ?_⟩
        have hlen : ((evF c r ss i).map V.int).length < sizeLine := by rw [List.length_map, sizeLine_eq]; omega
        obtain ⟨p', ep'⟩ : ∃ p', roomA ss (i : Nat) = some (some p') := by
          unfold roomA
          rw [Int.toNat_natCast, ri]
          cases st with
          | turn => exact (cz rfl).elim
          | meet bb n => exact ⟨_, rfl⟩
        have eri : ((roomsF false ss).map roomV)[i]? = some (.str (roomS p')) := by
          unfold roomA at ep'
          rw [Int.toNat_natCast] at ep'
          rw [List.getElem?_map, ep']
          rfl
        rcases split_last (evF c r ss i) with h0 | ⟨g, x, h0⟩
        · refine ifF (by rw [h0]; rfl) (ifF rfl ?_)
          refine ⟨_, rfl, .inl ⟨rfl, _, SqL.of gf7⟩, _, rfl, f, _, _, rfl, rfl, gf7, hlen, ?_⟩
          have z := fin (evF c r ss i) H3 s7 gf7 (by rw [ev1, h0]; rfl)
          exact ⟨_, _, _, by rw [et]; rfl, z.1, z.2⟩
        · have gdl := ein.gd
          rw [h0] at gdl
          have kx := (gd_last gdl).1
          have lx := lastI_ge (gd_app gdl)
          obtain ⟨_, px, epx, _⟩ := gd_last gdl
          have erx : ((roomsF false ss).map roomV)[x.toNat]? = some (.str (roomS px)) := by
            unfold roomA at epx
            rw [List.getElem?_map, epx]
            rfl
          have egl : (evF c r ss i).map V.int = g.map V.int ++ [.int x] := by rw [h0, List.map_append]; rfl
          refine ifT (decide_eq_true (by rw [egl, List.length_append]; show (0 : Int) < ((_ + 1 : Nat) : Int); omega)) ?_
          refine ⟨_, rfl, _, rfl, _, rfl, f, _, -1, .int x, rfl, rfl, SqL.of gf7, by rw [egl]; exact at_neg1, q, _, x, _, rfl, rfl, SqL.of gq7, at_of (j := x.toNat) (by omega) erx, ?_⟩
          refine ⟨_, rfl, _, rfl, q, _, (i : Nat), _, rfl, rfl, SqL.of gq7, at_of (j := i) rfl eri, rfl, _, rfl, ?_⟩
          by_cases e : px = p'
          · subst e
            refine ifT (decide_eq_true rfl) ?_
            have egd : ((evF c r ss i).map V.int).dropLast = g.map V.int := by rw [egl, List.dropLast_concat]
            refine ⟨_, rfl, .inl ⟨rfl, _, SqL.of gf7⟩, f, _, .int x, rfl, rfl, gf7, by rw [egl, List.length_append]; show (g.map V.int ++ [V.int x])[(g.map V.int).length + 1 - 1]? = _; rw [Nat.add_sub_cancel, List.getElem?_append_right (Nat.le_refl _), Nat.sub_self]; rfl, ?_⟩
            have z := fin g (upd H3 f (.lst ((evF c r ss i).map V.int).dropLast)) (fun b o e => by rw [upd_ne (ne_of_none e hf)]; exact s7 b o e) (upd_lst (by rw [egd])) (by rw [ev1]; unfold pushE; rw [h0, last_snoc]; dsimp only; rw [epx, ep', if_pos rfl, List.dropLast_concat])
            refine ⟨_, rfl, .inl ⟨rfl, _, SqL.of upd_same⟩, _, rfl, f, _, _, rfl, rfl, upd_same, by rw [egd, List.length_map, sizeLine_eq]; have := congrArg List.length h0; rw [List.length_append] at this; omega, ?_⟩
            rw [egd] at *
            exact ⟨_, _, _, by rw [et]; rfl, z.1, z.2⟩
          · refine ifF (decide_eq_false fun z => e (roomS_inj (by injection z))) ?_
            refine ⟨_, rfl, .inl ⟨rfl, _, SqL.of gf7⟩, _, rfl, f, _, _, rfl, rfl, gf7, hlen, ?_⟩
            have z := fin (evF c r ss i) H3 s7 gf7 (by rw [ev1]; unfold pushE; rw [h0, last_snoc]; dsimp only; rw [epx, ep', if_neg (fun z => e (Option.some.inj (Option.some.inj z)))])
            exact ⟨_, _, _, by rw [et]; rfl, z.1, z.2⟩
    · rintro σ H3 ⟨a, b, d, rfl, s4, gf⟩
      rw [e4.length] at gf
      exact ⟨_, rfl, k f H3 hfH ((s1.trans s2).trans s4) gf⟩
abbrev s_check_evidence : Stmt := top 48
abbrev n_check_evidence : List Str := ["rooms", "indexes", "before", "at", "index"]
theorem sc_check_evidence : FnScope n_check_evidence ["rooms", "indexes"] (defScope s_check_evidence) := ⟨rfl, rfl, rfl, by decide +kernel, rfl, by decide +kernel, by decide +kernel⟩
theorem ok_check_evidence {f f_is_number : Addr} {fd : FuncData} (F : Fun K "check_evidence" "check_evidence" s_check_evidence f fd) (B : Bt mg) (D_is_number : Dn P w K mg base 1 "is_number" f_is_number spIsNum) : FnOk P w K mg base CX0 2 f fd ["rooms", "indexes"] spChkEv := by
  refine F.ok sc_check_evidence (fun vs H Q E h => ?_) (fun cdv A outer s H vs Q E hr h => ?_)
  · obtain ⟨q, l, ss, xs, rfl, _⟩ := h
    rfl
  · obtain ⟨q, l, ss, xs, rfl, hq, hl, hn, hx, gd, k⟩ := h
    refine ⟨_, pss_cons (ps_set (i := 2) sc_check_evidence.nd rfl (.inl rfl) (pe_un un_neg pe_int))
      (pss_one (ps_for PassesOwn.never rfl (pi_enum (by rfl) B.enumerate (pa_cons (pv 1) pa_nil)) (pg_tup rfl (pgs_cons (pg_name (i := 3) sc_check_evidence.nd rfl (.inl rfl)) (pgs_cons (pg_name (i := 4) sc_check_evidence.nd rfl (.inl rfl)) pgs_nil)))
        (pss_cons (ps_if (PW.pt (pw_or (pt_not (pt_val (pe_callR D_is_number.ok (hr.mono (by decide)) rfl D_is_number.at_ D_is_number.kp pass0 (pa_cons (pv 4) (pa_cons (pe_op op_add (pv 2) pe_int) (pa_cons (pe_op op_sub (pe_callB call_len_seq (by rfl) B.len PySem.boot_len (pa_cons (pv 0) pa_nil)) pe_int) pa_nil)))))) (pw_or1 (pt_cmpR op_isN (pe_ix ix_list (pv 0) (pv 4) (fun _ _ => rfl)) pe_non (nomark _)))))
          (pss_one ps_never) pss_nil)
        (pss_cons (ps_if (PW.pt (pw_and (pt_cmpR op_gt (pv 3) pe_int (nomark _)) (pw_and1 (pt_cmpR op_eq (pe_ix ix_list (pv 0) (pv 4) (fun _ _ => rfl)) (pe_ix ix_list (pv 0) (pv 2) (fun _ _ => rfl)) (nomark _)))))
          (pss_one ps_never) pss_nil)
        (pss_one (ps_set (i := 2) sc_check_evidence.nd rfl (.inl rfl) (pv 4))))))), ?_⟩
    have gq : SqL K H q ((roomsF false ss).map roomV) := SqL.of hq
    have eln : (((roomsF false ss).map roomV).length : Int) = (ss.length : Int) := by rw [List.length_map, roomsF_len]
    refine ⟨_, rfl, _, rfl, l, _, rfl, SqL.of hl, ?_⟩
    refine for_it (walk_enum (K := K) (a := l) (xs := xs.map V.int)) (fun i σ H' => ∃ x y, σ = [some (.ref q), some (.ref l), some (.int (lastI (xs.take i))), x, y] ∧ Same H H' ∧ GdL ss (xs.take i)) ⟨none, none, rfl, Same.refl H, gd_nil⟩ (fun i σ H' _ ⟨_, _, _, s1, _⟩ => SqL.of (s1 _ _ hl)) ?_ ?_
    · rintro i w0 σ Ha Hb hi ⟨a, b, rfl, s1, gdi⟩ ⟨t, y1, y2, rfl, n1, rfl, z1, z2⟩
      have ey1 : y1 = .int (i : Nat) := by rw [← Option.some.inj z1]
      subst ey1
      obtain ⟨x, hxi, rfl⟩ : ∃ x, xs[i]? = some x ∧ y2 = .int x := by
        have z2' : (xs.map V.int)[i]? = some y2 := z2
        rw [List.getElem?_map] at z2'
        cases e : xs[i]? with
        | none => rw [e] at z2'; cases z2'
        | some x => rw [e] at z2'; exact ⟨x, rfl, (Option.some.inj z2').symm⟩
      have il : i < xs.length := (List.getElem?_eq_some_iff.mp hxi).1
      have s2 : Same H (upd Ha t (.tup [.int (i : Nat), .int x])) := s1.trans (same_upd n1)
      have q2 := SqL.of (K := K) (s2 _ _ hq)
      have lg := lastI_ge gdi
      have nxt : okNow ss (xs.take i) x → GdL ss (xs.take (i + 1)) ∧ lastI (xs.take (i + 1)) = x := fun h => by
        rw [tk_more hxi]
        exact ⟨gd_snoc gdi h, lastI_snoc _ _⟩
      refine ⟨t, _, rfl, SqT.of upd_same, rfl, _, _, rfl, _, _, rfl, rfl, ?_⟩
      refine ⟨_, rfl, _, rfl, _, _, rfl, rfl, _, rfl, q, _, rfl, .inl q2, _, _, rfl, rfl, x, _, _, rfl, _, rfl, ?_⟩
      by_cases h1 : lastI (xs.take i) + 1 ≤ x ∧ x ≤ (ss.length : Int) - 1
      · refine ifF (by rw [decide_eq_true (by rw [eln]; exact h1)]; rfl) ?_
        obtain ⟨o, ho⟩ : ∃ o, roomA ss x = some o := ⟨_, List.getElem?_eq_getElem (by rw [roomsF_len]; omega)⟩
        have eo : ((roomsF false ss).map roomV)[x.toNat]? = some (roomV o) := by
          rw [List.getElem?_map]
          unfold roomA at ho
          rw [ho]
          rfl
        refine ⟨_, rfl, _, rfl, q, _, x, _, rfl, rfl, q2, at_of (j := x.toNat) (by omega) eo, rfl, _, rfl, ?_⟩
        cases o with
        | none =>
          have no : ¬ okNow ss (xs.take i) x := fun ⟨_, p, e, _⟩ => by rw [ho] at e; cases e
          exact (no (gd i x hxi)).elim
        | some p =>
          refine ifF (by simp [roomV]) ?_
          refine ⟨_, rfl, _, _, rfl, rfl, _, rfl, ?_⟩
          rcases split_last (xs.take i) with h0 | ⟨g, y, h0⟩
          · have i0 : i = 0 := by
              have := congrArg List.length h0
              rw [List.length_take] at this
              have l0 : ([] : List Int).length = 0 := rfl
              omega
            refine ifF (decide_eq_false (by omega)) (ifF rfl ⟨_, rfl, ?_⟩)
            have ok : okNow ss (xs.take i) x := ⟨h1, p, ho, fun y e => by rw [h0] at e; cases e⟩
            obtain ⟨n1', n2'⟩ := nxt ok
            exact ⟨_, _, by rw [n2']; rfl, s2, n1'⟩
          · have i1 : 0 < i := by
              have := congrArg List.length h0
              rw [List.length_take, List.length_append] at this
              have l1 : ([y] : List Int).length = 1 := rfl
              omega
            have gdy := gdi
            rw [h0] at gdy
            obtain ⟨⟨ky1, ky2⟩, py, epy, _⟩ := gd_last gdy
            have ly := lastI_ge (gd_app gdy)
            have ely : lastI (xs.take i) = y := by rw [h0, lastI_snoc]
            have ey : ((roomsF false ss).map roomV)[y.toNat]? = some (.str (roomS py)) := by
              rw [List.getElem?_map]
              unfold roomA at epy
              rw [epy]
              rfl
            refine ifT (decide_eq_true (by omega)) ?_
            refine ⟨_, rfl, _, rfl, q, _, x, _, rfl, rfl, q2, at_of (j := x.toNat) (by omega) eo, _, rfl, _, rfl, q, _, _, _, rfl, rfl, q2, at_of (j := y.toNat) (by omega) ey, rfl, _, rfl, ?_⟩
            by_cases e : p = py
            · subst e
              have no : ¬ okNow ss (xs.take i) x := fun ⟨_, p', e', ne⟩ => by
                rw [ho] at e'
                rw [← e'] at ne
                exact ne y (by rw [h0, last_snoc]) epy
              exact (no (gd i x hxi)).elim
            · refine ifF (decide_eq_false fun z => e (roomS_inj (by injection z))) ⟨_, rfl, ?_⟩
              have ok : okNow ss (xs.take i) x := ⟨h1, p, ho, fun y' e' => by
                rw [h0, last_snoc] at e'
                rw [← Option.some.inj e', epy]
                intro z
                exact e (Option.some.inj (Option.some.inj z)).symm⟩
              obtain ⟨n1', n2'⟩ := nxt ok
              exact ⟨_, _, by rw [n2']; rfl, s2, n1'⟩
      · have no : ¬ okNow ss (xs.take i) x := fun h => h1 h.1
        exact (no (gd i x hxi)).elim
    · rintro σ H1 ⟨a, b, rfl, s1, gdi⟩
      rw [List.length_map, List.take_length] at gdi
      exact k H1 s1
theorem okx_check_evidence {f f_is_number CE fE : Addr} {fd : FuncData} (F : Fun K "check_evidence" "check_evidence" s_check_evidence f fd) (B : Bt mg) (D_is_number : Dn P w K mg base 1 "is_number" f_is_number spIsNum) (XE : PySem.EiX.EiTxt P K mg "InvalidEvidence" CE fE) : FnOk P w K mg base (L2.CX P w) 2 f fd ["rooms", "indexes"] (spChkEvX CE) := by
  refine F.okX sc_check_evidence (fun vs H Q E h => ?_) (fun cdv A outer s H vs Q E hr h => ?_)
  · obtain ⟨q, l, ss, xs, rfl, _⟩ := h
    rfl
  · obtain ⟨q, l, ss, xs, rfl, hq, hl, hn, hx, kg, kb⟩ := h
    refine ⟨_, pss_cons (ps_set (i := 2) sc_check_evidence.nd rfl (.inl rfl) (pe_un un_neg pe_int))
      (pss_one (ps_for (passes_of rfl) rfl (pi_enum (by rfl) B.enumerate (pa_cons (pv 1) pa_nil)) (pg_tup rfl (pgs_cons (pg_name (i := 3) sc_check_evidence.nd rfl (.inl rfl)) (pgs_cons (pg_name (i := 4) sc_check_evidence.nd rfl (.inl rfl)) pgs_nil)))
        (pss_cons (ps_if (PW.pt (pw_or (pt_not (pt_val (pe_callR D_is_number.ok (hr.mono (by decide)) rfl D_is_number.at_ D_is_number.kp pass0 (pa_cons (pv 4) (pa_cons (pe_op op_add (pv 2) pe_int) (pa_cons (pe_op op_sub (pe_callB call_len_seq (by rfl) B.len PySem.boot_len (pa_cons (pv 0) pa_nil)) pe_int) pa_nil)))))) (pw_or1 (pt_cmpR op_isN (pe_ix ix_list (pv 0) (pv 4) (fun _ _ => rfl)) pe_non (nomark _)))))
          (pss_one (ps_raise (W := fun cls d _ H => E cls d H) rfl (takes_of rfl rfl rfl rfl) (pmk_idx (k := 1) XE (hr.mono (by decide)) (pv 3) rfl))) pss_nil)
        (pss_cons (ps_if (PW.pt (pw_and (pt_cmpR op_gt (pv 3) pe_int (nomark _)) (pw_and1 (pt_cmpR op_eq (pe_ix ix_list (pv 0) (pv 4) (fun _ _ => rfl)) (pe_ix ix_list (pv 0) (pv 2) (fun _ _ => rfl)) (nomark _)))))
          (pss_one (ps_raise (W := fun cls d _ H => E cls d H) rfl (takes_of rfl rfl rfl rfl) (pmk_idx (k := 1) XE (hr.mono (by decide)) (pv 3) rfl))) pss_nil)
        (pss_one (ps_set (i := 2) sc_check_evidence.nd rfl (.inl rfl) (pv 4))))))), ?_⟩
    have gq : SqL K H q ((roomsF false ss).map roomV) := SqL.of hq
    have eln : (((roomsF false ss).map roomV).length : Int) = (ss.length : Int) := by rw [List.length_map, roomsF_len]
    refine ⟨_, rfl, _, rfl, l, _, rfl, SqL.of hl, ?_⟩
    refine for_it (walk_enum (K := K) (a := l) (xs := xs.map V.int)) (fun i σ H' => ∃ x y, σ = [some (.ref q), some (.ref l), some (.int (lastI (xs.take i))), x, y] ∧ Same H H' ∧ GdL ss (xs.take i)) ⟨none, none, rfl, Same.refl H, gd_nil⟩ (fun i σ H' _ ⟨_, _, _, s1, _⟩ => SqL.of (s1 _ _ hl)) ?_ ?_
    · rintro i w0 σ Ha Hb hi ⟨a, b, rfl, s1, gdi⟩ ⟨t, y1, y2, rfl, n1, rfl, z1, z2⟩
      have ey1 : y1 = .int (i : Nat) := by rw [← Option.some.inj z1]
      subst ey1
      obtain ⟨x, hxi, rfl⟩ : ∃ x, xs[i]? = some x ∧ y2 = .int x := by
        have z2' : (xs.map V.int)[i]? = some y2 := z2
        rw [List.getElem?_map] at z2'
        cases e : xs[i]? with
        | none => rw [e] at z2'; cases z2'
        | some x => rw [e] at z2'; exact ⟨x, rfl, (Option.some.inj z2').symm⟩
      have il : i < xs.length := (List.getElem?_eq_some_iff.mp hxi).1
      have s2 : Same H (upd Ha t (.tup [.int (i : Nat), .int x])) := s1.trans (same_upd n1)
      have q2 := SqL.of (K := K) (s2 _ _ hq)
      have lg := lastI_ge gdi
      have nxt : okNow ss (xs.take i) x → GdL ss (xs.take (i + 1)) ∧ lastI (xs.take (i + 1)) = x := fun h => by
        rw [tk_more hxi]
        exact ⟨gd_snoc gdi h, lastI_snoc _ _⟩
      refine ⟨t, _, rfl, SqT.of upd_same, rfl, _, _, rfl, _, _, rfl, rfl, ?_⟩
      refine ⟨_, rfl, _, rfl, _, _, rfl, rfl, _, rfl, q, _, rfl, .inl q2, _, _, rfl, rfl, x, _, _, rfl, _, rfl, ?_⟩
      by_cases h1 : lastI (xs.take i) + 1 ≤ x ∧ x ≤ (ss.length : Int) - 1
      · refine ifF (by rw [decide_eq_true (by rw [eln]; exact h1)]; rfl) ?_
        obtain ⟨o, ho⟩ : ∃ o, roomA ss x = some o := ⟨_, List.getElem?_eq_getElem (by rw [roomsF_len]; omega)⟩
        have eo : ((roomsF false ss).map roomV)[x.toNat]? = some (roomV o) := by
          rw [List.getElem?_map]
          unfold roomA at ho
          rw [ho]
          rfl
        refine ⟨_, rfl, _, rfl, q, _, x, _, rfl, rfl, q2, at_of (j := x.toNat) (by omega) eo, rfl, _, rfl, ?_⟩
        cases o with
        | none =>
          have no : ¬ okNow ss (xs.take i) x := fun ⟨_, p, e, _⟩ => by rw [ho] at e; cases e
          exact ifT (by simp [roomV]) ⟨_, rfl, (i : Nat), rfl, ⟨by omega, by omega⟩, fun d hd => kb i _ d ⟨gdi, x, hxi, no⟩ s2 hd⟩
        | some p =>
          refine ifF (by simp [roomV]) ?_
          refine ⟨_, rfl, _, _, rfl, rfl, _, rfl, ?_⟩
          rcases split_last (xs.take i) with h0 | ⟨g, y, h0⟩
          · have i0 : i = 0 := by
              have := congrArg List.length h0
              rw [List.length_take] at this
              have l0 : ([] : List Int).length = 0 := rfl
              omega
            refine ifF (decide_eq_false (by omega)) (ifF rfl ⟨_, rfl, ?_⟩)
            have ok : okNow ss (xs.take i) x := ⟨h1, p, ho, fun y e => by rw [h0] at e; cases e⟩
            obtain ⟨n1', n2'⟩ := nxt ok
            exact ⟨_, _, by rw [n2']; rfl, s2, n1'⟩
          · have i1 : 0 < i := by
              have := congrArg List.length h0
              rw [List.length_take, List.length_append] at this
              have l1 : ([y] : List Int).length = 1 := rfl
              omega
            have gdy := gdi
            rw [h0] at gdy
            obtain ⟨⟨ky1, ky2⟩, py, epy, _⟩ := gd_last gdy
            have ly := lastI_ge (gd_app gdy)
            have ely : lastI (xs.take i) = y := by rw [h0, lastI_snoc]
            have ey : ((roomsF false ss).map roomV)[y.toNat]? = some (.str (roomS py)) := by
              rw [List.getElem?_map]
              unfold roomA at epy
              rw [epy]
              rfl
            refine ifT (decide_eq_true (by omega)) ?_
            refine ⟨_, rfl, _, rfl, q, _, x, _, rfl, rfl, q2, at_of (j := x.toNat) (by omega) eo, _, rfl, _, rfl, q, _, _, _, rfl, rfl, q2, at_of (j := y.toNat) (by omega) ey, rfl, _, rfl, ?_⟩
            by_cases e : p = py
            · subst e
              have no : ¬ okNow ss (xs.take i) x := fun ⟨_, p', e', ne⟩ => by
                rw [ho] at e'
                rw [← e'] at ne
                exact ne y (by rw [h0, last_snoc]) epy
              exact ifT (decide_eq_true rfl) ⟨_, rfl, (i : Nat), rfl, ⟨by omega, by omega⟩, fun d hd => kb i _ d ⟨gdi, x, hxi, no⟩ s2 hd⟩
            · refine ifF (decide_eq_false fun z => e (roomS_inj (by injection z))) ⟨_, rfl, ?_⟩
              have ok : okNow ss (xs.take i) x := ⟨h1, p, ho, fun y' e' => by
                rw [h0, last_snoc] at e'
                rw [← Option.some.inj e', epy]
                intro z
                exact e (Option.some.inj (Option.some.inj z)).symm⟩
              obtain ⟨n1', n2'⟩ := nxt ok
              exact ⟨_, _, by rw [n2']; rfl, s2, n1'⟩
      · have no : ¬ okNow ss (xs.take i) x := fun h => h1 h.1
        exact ifT (by rw [decide_eq_false (by rw [eln]; exact h1)]; rfl) ⟨_, rfl, (i : Nat), rfl, ⟨by omega, by omega⟩, fun d hd => kb i _ d ⟨gdi, x, hxi, no⟩ s2 hd⟩
    · rintro σ H1 ⟨a, b, rfl, s1, gdi⟩
      rw [List.length_map, List.take_length] at gdi
      exact kg gdi H1 s1
abbrev s_judge_evidence : Stmt := top 47
abbrev n_judge_evidence : List Str := ["plan", "chairs", "start", "indexes", "rooms", "total", "there", "at", "index", "need"]
theorem sc_judge_evidence : FnScope n_judge_evidence ["plan", "chairs", "start", "indexes"] (defScope s_judge_evidence) := ⟨rfl, rfl, rfl, by decide +kernel, rfl, by decide +kernel, by decide +kernel⟩
theorem ok_judge_evidence {f f_check_start f_first_rooms f_check_evidence : Addr} {fd fdS : FuncData} (F : Fun K "judge_evidence" "judge_evidence" s_judge_evidence f fd) (T : Txt K mg C TU pS gS mc) (G : Gs P w K mg base C gS fdS) (D_check_start : Dn P w K mg base 4 "check_start" f_check_start (spChkStart C)) (D_first_rooms : Dn P w K mg base 1 "first_rooms" f_first_rooms (spFRooms K)) (D_check_evidence : Dn P w K mg base 2 "check_evidence" f_check_evidence spChkEv) : FnOk P w K mg base CX0 5 f fd ["plan", "chairs", "start", "indexes"] (spJudge C) := by
  refine F.ok sc_judge_evidence (fun vs H Q E h => ?_) (fun cdv A outer s H vs Q E hr h => ?_)
  · obtain ⟨p, l, c, r, ss, xs, rfl, _⟩ := h
    rfl
  · obtain ⟨p, l, c, r, ss, xs, rfl, hp, c0, c1, hs, hl, r0, r1, hL, hx, gd, k⟩ := h
    refine ⟨_, pss_cons (ps_expr (pe_callR D_check_start.ok (hr.mono (by decide)) rfl D_check_start.at_ D_check_start.kp pass0 (pa_cons (pv 0) (pa_cons (pv 1) (pa_cons (pv 2) pa_nil)))))
      (pss_cons (ps_set (i := 4) sc_judge_evidence.nd rfl (.inl rfl) (pe_callR D_first_rooms.ok (hr.mono (by decide)) rfl D_first_rooms.at_ D_first_rooms.kp pass0 (pa_cons (pe_prop (pv 0) T.cl T.pr G.ok (hr.mono (by decide)) G.b .nil pass0 rfl) pa_nil)))
      (pss_cons (ps_expr (pe_callR D_check_evidence.ok (hr.mono (by decide)) rfl D_check_evidence.at_ D_check_evidence.kp pass0 (pa_cons (pv 4) (pa_cons (pv 3) pa_nil))))
      (pss_cons (ps_asg2 pe_int (pg_name (i := 5) sc_judge_evidence.nd rfl (.inl rfl)) (pg_name (i := 6) sc_judge_evidence.nd rfl (.inl rfl)))
      (pss_cons (ps_for PassesOwn.never rfl (pi_enum (by rfl) T.b.enumerate (pa_cons (pv 3) pa_nil)) (pg_tup rfl (pgs_cons (pg_name (i := 7) sc_judge_evidence.nd rfl (.inl rfl)) (pgs_cons (pg_name (i := 8) sc_judge_evidence.nd rfl (.inl rfl)) pgs_nil)))
        (C8.pss_cut (ps_if (pt_cmpR op_eq (pv 7) pe_int (nomark _))
          (pss_one (ps_set (i := 6) sc_judge_evidence.nd rfl (.inl rfl) (pe_ifExp (pt_cmpR op_eq (pe_ix ix_list (pv 4) (pv 8) (fun _ _ => rfl)) pe_str (nomark _)) (pv 2) (pe_op op_sub (pv 1) (pv 2))))) pss_nil)
        (pss_cons (ps_set (i := 9) sc_judge_evidence.nd rfl (.inl rfl) (pe_ix ix_tup (pe_ix ix_tup (pe_prop (pv 0) T.cl T.pr G.ok (hr.mono (by decide)) G.b .nil pass0 rfl) (pv 8) (fun _ _ => rfl)) pe_int (fun _ _ => rfl)))
        (pss_cons (ps_aug (i := 5) sc_judge_evidence.nd rfl (.inl rfl) (pe_op op_sub (pv 9) (pv 6)) ip_add)
        (pss_one (ps_set (i := 6) sc_judge_evidence.nd rfl (.inl rfl) (pe_op op_sub (pv 1) (pv 9))))))))
      (pss_one (ps_ret (pe_callB (call_max2 rfl) (by rfl) T.b.max (by decide +kernel) (pa_cons pe_int (pa_cons (pv 5) pa_nil))))))))), ?_⟩
    refine ⟨_, rfl, _, rfl, _, rfl, p, c, r, ss, rfl, hp, c0, c1, hs, hl, r0, r1, fun H1 s1 => ?_⟩
    have hp1 := hp.same s1
    obtain ⟨dx, tp, ws, e1, e2, e3, e4⟩ := hp1.tup (K := K)
    refine ⟨_, rfl, p, dx, _, rfl, e1, p, dx, _, _, rfl, e1, lk_self, tp, ws, ss, rfl, e2, e3, e4, by omega, fun q H2 hq s2 g2 => ?_⟩
    have s12 := s1.trans s2
    refine ⟨_, rfl, _, rfl, q, l, ss, xs, rfl, g2, s12 _ _ hL, hl, hx, gd, fun H3 s3 => ?_⟩
    have s13 := s12.trans s3
    have s23 := s2.trans s3
    refine ⟨_, rfl, l, _, rfl, SqL.of (s13 _ _ hL), ?_⟩
    refine for_it (walk_enum (K := K) (a := l) (xs := xs.map V.int)) (fun i σ H' => ∃ (th : Int) (x y z : Option V), σ = [some (.ref p), some (.int c), some (.int r), some (.ref l), some (.ref q), some (.int (jT c r ss (xs.take i)).1), some (.int th), x, y, z] ∧ Same H3 H' ∧ ∀ y, (xs.take i).getLast? = some y → th = c - needA ss y)
      ⟨0, none, none, none, rfl, Same.refl H3, fun y e => nomatch e⟩ (fun i σ H' _ ⟨_, _, _, _, _, s4, _⟩ => SqL.of (s4 _ _ (s13 _ _ hL))) ?_ ?_
    · rintro i w0 σ Ha Hb hi ⟨th, a, b, d, rfl, s4, eth⟩ ⟨t, y1, y2, rfl, n1, rfl, z1, z2⟩
      have ey1 : y1 = .int (i : Nat) := by rw [← Option.some.inj z1]
      subst ey1
      obtain ⟨x, hxi, rfl⟩ : ∃ x, xs[i]? = some x ∧ y2 = .int x := by
        have z2' : (xs.map V.int)[i]? = some y2 := z2
        rw [List.getElem?_map] at z2'
        cases e : xs[i]? with
        | none => rw [e] at z2'; cases z2'
        | some x => rw [e] at z2'; exact ⟨x, rfl, (Option.some.inj z2').symm⟩
      have il : i < xs.length := (List.getElem?_eq_some_iff.mp hxi).1
      obtain ⟨⟨kx1, kx2⟩, pr, epr, _⟩ := gd i x hxi
      have gdi : GdL ss (xs.take i) := gd_take gd i
      have lg := lastI_ge gdi
      obtain ⟨bb, n, esx, _, enx⟩ := room_meet epr
      have s5 : Same H3 (upd Ha t (.tup [.int (i : Nat), .int x])) := s4.trans (same_upd n1)
      have q5 := SqL.of (K := K) (s5 _ _ (s3 _ _ g2))
      have eo : ((roomsF false ss).map roomV)[x.toNat]? = some (.str (roomS pr)) := by
        rw [List.getElem?_map]
        unfold roomA at epr
        rw [epr]
        rfl
      refine ⟨t, _, rfl, SqT.of upd_same, rfl, _, _, rfl, _, _, rfl, rfl, ?_⟩
      generalize upd Ha t (.tup [.int (i : Nat), .int x]) = Hc at *
      refine ⟨fun σ H' => ∃ th' : Int, σ = [some (.ref p), some (.int c), some (.int r), some (.ref l), some (.ref q), some (.int (jT c r ss (xs.take i)).1), some (.int th'), some (.int (i : Nat)), some (.int x), d] ∧ Same H3 H' ∧ th' = (match (xs.take i).getLast? with | none => (if roomA ss x = some (some true) then r else c - r) | some y => c - needA ss y), ?_, ?_⟩
      · refine ⟨_, rfl, rfl, _, rfl, ?_⟩
        rcases split_last (xs.take i) with h0 | ⟨g, y, h0⟩
        · have i0 : i = 0 := by
            have := congrArg List.length h0
            rw [List.length_take] at this
            have l0 : ([] : List Int).length = 0 := rfl
            omega
          refine ifT (decide_eq_true (by rw [i0]; rfl)) ?_
          refine ⟨_, rfl, _, rfl, q, _, x, _, rfl, rfl, q5, at_of (j := x.toNat) (by omega) eo, rfl, _, rfl, ?_⟩
          cases pr with
          | true => exact ifT (decide_eq_true rfl) ⟨_, rfl, _, rfl, s5, by rw [h0, epr]; rfl⟩
          | false => exact ifF (decide_eq_false (by simp [roomS]; decide)) ⟨_, rfl, _, rfl, _, _, rfl, rfl, _, rfl, s5, by rw [h0, epr]; rfl⟩
        · have i1 : i ≠ 0 := fun z => by
            have := congrArg List.length h0
            rw [List.length_take, List.length_append, z] at this
            have l1 : ([y] : List Int).length = 1 := rfl
            omega
          refine ifF (decide_eq_false fun z => i1 (by injection z; omega)) ⟨th, rfl, s5, ?_⟩
          rw [eth y (by rw [h0, last_snoc]), h0, last_snoc]
      rintro σ H5 ⟨th', rfl, s6, eth'⟩
      have e15 := s6 _ _ (s23 _ _ e1)
      obtain ⟨v, hv⟩ : ∃ v, ws[x.toNat]? = some v := ⟨_, List.getElem?_eq_getElem (by rw [e4.length]; exact (List.getElem?_eq_some_iff.mp esx).1)⟩
      obtain ⟨st', hst', u, rfl, hu0⟩ := e4.get hv
      have est : st' = .meet bb n := Option.some.inj (hst'.symm.trans esx)
      subst est
      have hu := s6 _ _ (s23 _ _ hu0)
      refine ⟨_, rfl, p, dx, _, rfl, e15, p, dx, _, _, rfl, e15, lk_self, _, rfl, tp, ws, x, _, rfl, rfl, e3 _ (s23.trans s6), at_of (j := x.toNat) (by omega) hv, u, _, 1, _, rfl, rfl, SqT.of hu, at_of (j := 1) rfl rfl, ?_⟩
      have ej : (jT c r ss (xs.take (i + 1))).1 = (jT c r ss (xs.take i)).1 + (n - th') := by
        rw [tk_more hxi, jT_snoc]
        unfold jS
        rw [jT_last, enx, eth']
        all_goals rfl
      refine ⟨_, rfl, _, rfl, _, rfl, _, _, rfl, rfl, _, _, rfl, rfl, ?_⟩
      refine ⟨_, rfl, _, rfl, _, _, rfl, rfl, ?_⟩
      refine ⟨c - n, _, _, _, by rw [ej]; rfl, s6, fun y e => ?_⟩
      rw [tk_more hxi, last_snoc] at e
      rw [← Option.some.inj e, enx]
    · rintro σ H5 ⟨th, a, b, d, rfl, s4, _⟩
      rw [List.length_map, List.take_length]
      exact ⟨_, rfl, _, _, rfl, k H5 (s13.trans s4)⟩
theorem okx_judge_evidence {f f_check_start f_first_rooms fx_check_evidence CE : Addr} {fd fdS : FuncData} (F : Fun K "judge_evidence" "judge_evidence" s_judge_evidence f fd) (T : Txt K mg C TU pS gS mc) (G : Gs P w K mg base C gS fdS) (D_check_start : Dn P w K mg base 4 "check_start" f_check_start (spChkStart C)) (D_first_rooms : Dn P w K mg base 1 "first_rooms" f_first_rooms (spFRooms K)) (DX_check_evidence : DnX P w K mg base 2 "check_evidence" fx_check_evidence (spChkEvX CE)) : FnOk P w K mg base (L2.CX P w) 5 f fd ["plan", "chairs", "start", "indexes"] (spJudgeX C CE) := by
  refine F.okX sc_judge_evidence (fun vs H Q E h => ?_) (fun cdv A outer s H vs Q E hr h => ?_)
  · obtain ⟨p, l, c, r, ss, xs, rfl, _⟩ := h
    rfl
  · obtain ⟨p, l, c, r, ss, xs, rfl, hp, c0, c1, hs, hl, r0, r1, hL, hx, kg, kb⟩ := h
    refine ⟨_, pss_cons (ps_expr (pe_callR D_check_start.ok (hr.mono (by decide)) rfl D_check_start.at_ D_check_start.kp pass0 (pa_cons (pv 0) (pa_cons (pv 1) (pa_cons (pv 2) pa_nil)))))
      (pss_cons (ps_set (i := 4) sc_judge_evidence.nd rfl (.inl rfl) (pe_callR D_first_rooms.ok (hr.mono (by decide)) rfl D_first_rooms.at_ D_first_rooms.kp pass0 (pa_cons (pe_prop (pv 0) T.cl T.pr G.ok (hr.mono (by decide)) G.b .nil pass0 rfl) pa_nil)))
      (pss_cons (ps_expr (pe_callR (Ez := E) DX_check_evidence.ok (hr.mono (by decide)) rfl DX_check_evidence.at_ DX_check_evidence.kp (passes_call (takes_of rfl rfl rfl rfl) fun _ _ _ _ h => h) (pa_cons (pv 4) (pa_cons (pv 3) pa_nil))))
      (pss_cons (ps_asg2 pe_int (pg_name (i := 5) sc_judge_evidence.nd rfl (.inl rfl)) (pg_name (i := 6) sc_judge_evidence.nd rfl (.inl rfl)))
      (pss_cons (ps_for (passes_of rfl) rfl (pi_enum (by rfl) T.b.enumerate (pa_cons (pv 3) pa_nil)) (pg_tup rfl (pgs_cons (pg_name (i := 7) sc_judge_evidence.nd rfl (.inl rfl)) (pgs_cons (pg_name (i := 8) sc_judge_evidence.nd rfl (.inl rfl)) pgs_nil)))
        (C8.pss_cut (ps_if (pt_cmpR op_eq (pv 7) pe_int (nomark _))
          (pss_one (ps_set (i := 6) sc_judge_evidence.nd rfl (.inl rfl) (pe_ifExp (pt_cmpR op_eq (pe_ix ix_list (pv 4) (pv 8) (fun _ _ => rfl)) pe_str (nomark _)) (pv 2) (pe_op op_sub (pv 1) (pv 2))))) pss_nil)
        (pss_cons (ps_set (i := 9) sc_judge_evidence.nd rfl (.inl rfl) (pe_ix ix_tup (pe_ix ix_tup (pe_prop (pv 0) T.cl T.pr G.ok (hr.mono (by decide)) G.b .nil pass0 rfl) (pv 8) (fun _ _ => rfl)) pe_int (fun _ _ => rfl)))
        (pss_cons (ps_aug (i := 5) sc_judge_evidence.nd rfl (.inl rfl) (pe_op op_sub (pv 9) (pv 6)) ip_add)
        (pss_one (ps_set (i := 6) sc_judge_evidence.nd rfl (.inl rfl) (pe_op op_sub (pv 1) (pv 9))))))))
      (pss_one (ps_ret (pe_callB (call_max2 rfl) (by rfl) T.b.max (by decide +kernel) (pa_cons pe_int (pa_cons (pv 5) pa_nil))))))))), ?_⟩
    refine ⟨_, rfl, _, rfl, _, rfl, p, c, r, ss, rfl, hp, c0, c1, hs, hl, r0, r1, fun H1 s1 => ?_⟩
    have hp1 := hp.same s1
    obtain ⟨dx, tp, ws, e1, e2, e3, e4⟩ := hp1.tup (K := K)
    refine ⟨_, rfl, p, dx, _, rfl, e1, p, dx, _, _, rfl, e1, lk_self, tp, ws, ss, rfl, e2, e3, e4, by omega, fun q H2 hq s2 g2 => ?_⟩
    have s12 := s1.trans s2
    refine ⟨_, rfl, _, rfl, q, l, ss, xs, rfl, g2, s12 _ _ hL, hl, hx, fun gd H3 s3 => ?_, fun k H4 d bd s4 hd => kb k H4 d bd (s12.trans s4) hd⟩
    have s13 := s12.trans s3
    have s23 := s2.trans s3
    refine ⟨_, rfl, l, _, rfl, SqL.of (s13 _ _ hL), ?_⟩
    refine for_it (walk_enum (K := K) (a := l) (xs := xs.map V.int)) (fun i σ H' => ∃ (th : Int) (x y z : Option V), σ = [some (.ref p), some (.int c), some (.int r), some (.ref l), some (.ref q), some (.int (jT c r ss (xs.take i)).1), some (.int th), x, y, z] ∧ Same H3 H' ∧ ∀ y, (xs.take i).getLast? = some y → th = c - needA ss y)
      ⟨0, none, none, none, rfl, Same.refl H3, fun y e => nomatch e⟩ (fun i σ H' _ ⟨_, _, _, _, _, s4, _⟩ => SqL.of (s4 _ _ (s13 _ _ hL))) ?_ ?_
    · rintro i w0 σ Ha Hb hi ⟨th, a, b, d, rfl, s4, eth⟩ ⟨t, y1, y2, rfl, n1, rfl, z1, z2⟩
      have ey1 : y1 = .int (i : Nat) := by rw [← Option.some.inj z1]
      subst ey1
      obtain ⟨x, hxi, rfl⟩ : ∃ x, xs[i]? = some x ∧ y2 = .int x := by
        have z2' : (xs.map V.int)[i]? = some y2 := z2
        rw [List.getElem?_map] at z2'
        cases e : xs[i]? with
        | none => rw [e] at z2'; cases z2'
        | some x => rw [e] at z2'; exact ⟨x, rfl, (Option.some.inj z2').symm⟩
      have il : i < xs.length := (List.getElem?_eq_some_iff.mp hxi).1
      obtain ⟨⟨kx1, kx2⟩, pr, epr, _⟩ := gd i x hxi
      have gdi : GdL ss (xs.take i) := gd_take gd i
      have lg := lastI_ge gdi
      obtain ⟨bb, n, esx, _, enx⟩ := room_meet epr
      have s5 : Same H3 (upd Ha t (.tup [.int (i : Nat), .int x])) := s4.trans (same_upd n1)
      have q5 := SqL.of (K := K) (s5 _ _ (s3 _ _ g2))
      have eo : ((roomsF false ss).map roomV)[x.toNat]? = some (.str (roomS pr)) := by
        rw [List.getElem?_map]
        unfold roomA at epr
        rw [epr]
        rfl
      refine ⟨t, _, rfl, SqT.of upd_same, rfl, _, _, rfl, _, _, rfl, rfl, ?_⟩
      generalize upd Ha t (.tup [.int (i : Nat), .int x]) = Hc at *
      refine ⟨fun σ H' => ∃ th' : Int, σ = [some (.ref p), some (.int c), some (.int r), some (.ref l), some (.ref q), some (.int (jT c r ss (xs.take i)).1), some (.int th'), some (.int (i : Nat)), some (.int x), d] ∧ Same H3 H' ∧ th' = (match (xs.take i).getLast? with | none => (if roomA ss x = some (some true) then r else c - r) | some y => c - needA ss y), ?_, ?_⟩
      · refine ⟨_, rfl, rfl, _, rfl, ?_⟩
        rcases split_last (xs.take i) with h0 | ⟨g, y, h0⟩
        · have i0 : i = 0 := by
            have := congrArg List.length h0
            rw [List.length_take] at this
            have l0 : ([] : List Int).length = 0 := rfl
            omega
          refine ifT (decide_eq_true (by rw [i0]; rfl)) ?_
          refine ⟨_, rfl, _, rfl, q, _, x, _, rfl, rfl, q5, at_of (j := x.toNat) (by omega) eo, rfl, _, rfl, ?_⟩
          cases pr with
          | true => exact ifT (decide_eq_true rfl) ⟨_, rfl, _, rfl, s5, by rw [h0, epr]; rfl⟩
          | false => exact ifF (decide_eq_false (by simp [roomS]; decide)) ⟨_, rfl, _, rfl, _, _, rfl, rfl, _, rfl, s5, by rw [h0, epr]; rfl⟩
        · have i1 : i ≠ 0 := fun z => by
            have := congrArg List.length h0
            rw [List.length_take, List.length_append, z] at this
            have l1 : ([y] : List Int).length = 1 := rfl
            omega
          refine ifF (decide_eq_false fun z => i1 (by injection z; omega)) ⟨th, rfl, s5, ?_⟩
          rw [eth y (by rw [h0, last_snoc]), h0, last_snoc]
      rintro σ H5 ⟨th', rfl, s6, eth'⟩
      have e15 := s6 _ _ (s23 _ _ e1)
      obtain ⟨v, hv⟩ : ∃ v, ws[x.toNat]? = some v := ⟨_, List.getElem?_eq_getElem (by rw [e4.length]; exact (List.getElem?_eq_some_iff.mp esx).1)⟩
      obtain ⟨st', hst', u, rfl, hu0⟩ := e4.get hv
      have est : st' = .meet bb n := Option.some.inj (hst'.symm.trans esx)
      subst est
      have hu := s6 _ _ (s23 _ _ hu0)
      refine ⟨_, rfl, p, dx, _, rfl, e15, p, dx, _, _, rfl, e15, lk_self, _, rfl, tp, ws, x, _, rfl, rfl, e3 _ (s23.trans s6), at_of (j := x.toNat) (by omega) hv, u, _, 1, _, rfl, rfl, SqT.of hu, at_of (j := 1) rfl rfl, ?_⟩
      have ej : (jT c r ss (xs.take (i + 1))).1 = (jT c r ss (xs.take i)).1 + (n - th') := by
        rw [tk_more hxi, jT_snoc]
        unfold jS
        rw [jT_last, enx, eth']
        all_goals rfl
      refine ⟨_, rfl, _, rfl, _, rfl, _, _, rfl, rfl, _, _, rfl, rfl, ?_⟩
      refine ⟨_, rfl, _, rfl, _, _, rfl, rfl, ?_⟩
      refine ⟨c - n, _, _, _, by rw [ej]; rfl, s6, fun y e => ?_⟩
      rw [tk_more hxi, last_snoc] at e
      rw [← Option.some.inj e, enx]
    · rintro σ H5 ⟨th, a, b, d, rfl, s4, _⟩
      rw [List.length_map, List.take_length]
      exact ⟨_, rfl, _, _, rfl, kg gd H5 (s13.trans s4)⟩
end
end Cc

namespace Cc
open PySem PySem.Spec PyProof.Rows L2
abbrev sAlt : Stmt := inClass (top 16) 3
def altF (a b : Int) : List Stp := [.meet true a, .meet false b]
def spAltS (C : Addr) : Sp := fun vs H Q _ => ∃ (tp : Addr) (a b : Int), vs = [.ref C, .ref tp] ∧ H tp = some (.tup [.int a, .int b]) ∧ (0 ≤ a ∧ a ≤ 1000000000000000000) ∧ (0 ≤ b ∧ b ≤ 1000000000000000000) ∧ ∀ p H', Same H H' → PlanAt C H' p (altF a b) → Q (.ref p) H'
def spAlt (C : Addr) : Sp := fun vs H Q _ => ∃ (a b : Int), vs = [.ref C, .int a, .int b] ∧ (0 ≤ a ∧ a ≤ 1000000000000000000) ∧ (0 ≤ b ∧ b ≤ 1000000000000000000) ∧ ∀ p H', Same H H' → PlanAt C H' p (altF a b) → Q (.ref p) H'
/-- c( *xs), c a name bound to the class -/
theorem pe_makeSv {X : Cx} {CX : CXT} {k i : Nat} {f C : Addr} {sp : Sp} {Ez : XK} {x : Str} {e : Expr} {te : TE} {p q pos : Pos} (M : Mk X.K C f) (F : FnR X.prog X.w X.K X.mg X.base CX k f sp) (hr : Room (k + 1) X.A) (hi : X.N[i]? = some x) (hv : Vis X.env.scope x) (hx : Passes CX X Ez) (ke : PE X e te)
    (hd : (x == ("__debug__" : Str)) = false := by decide) (hcd : (x == ("__classdict__" : Str)) = false := by decide) (hst : starEach [.Starred e q] X.env = [(true, eval e X.env)] := by rfl) :
    PE X (.Call (.Name x p) [.Starred e q] [] pos) (fun sg H Q => sg[i]? = some (some (.ref C)) ∧ tMakeS X.K C sp Ez te sg H Q) := by
  refine ⟨fun pz s sg Hh Qz J ⟨hc, h⟩ => ?_⟩
  refine wpAny_Call_Name_kw (thn ((pe_var (pos := p) (i := i) hi hv hd hcd).run pz s sg Hh (fun v H1 => v = .ref C ∧ H1 = Hh) J ⟨.ref C, hc, rfl, rfl⟩) fun u z1 ⟨v, H1, J1, r1, ev, eH⟩ => ?_)
  subst ev
  subst eH
  cases (show u = Value.ref C from r1)
  refine PySem.W.callWith_S (h₀ := X.base) J1.ok.mod.kin M.kp (thn (ke.run pz z1 sg H1 _ J1 h) fun v z2 ⟨y, H2, J2, ry, a, xs, ey, kxs, qz⟩ => ?_) hst
  subst ey
  cases (show v = Value.ref a from ry)
  exact StX.star_any J2 kxs fun us z3 J3 rw1 => ⟨J3.kIn, StX.run_makeR M F hr hx J3 rw1 qz⟩
section
variable {P : Program} {w : World} {K : PySem.W.Frag} {mg : Str → Option Value} {base : Heap} {C TU pS gS : Addr} {mc : Value}
theorem scAlt : FnScope ["cls", "needs", "steps", "at", "need"] ["cls", "needs"] (defScope sAlt) := ⟨rfl, rfl, rfl, by decide +kernel, rfl, by decide +kernel, by decide +kernel⟩
theorem ok_alt {f fI : Addr} {fd : FuncData} (F : Fun K "alternating" "Plan.alternating" sAlt f fd) (T : Txt K mg C TU pS gS mc) (M : Mk K C fI) (GI : FnR P w K mg base CX0 3 fI (spInit C)) : FnR P w K mg base CX0 5 f (spAlt C) := by
  obtain ⟨z1, z2, z3, z4, z5, z6, cdv, z7, z8, rfl, lk, hcd⟩ := F.ex
  refine (StX.fn_star (ps := ["cls"]) (pv := "needs") (sp := spAltS C) (k := 4) lk hcd scAlt StX.cxUp_none (StX.bind_star1 (B := fun us => bindArgs _ ⟨us, []⟩) (fun _ => rfl) (fun _ _ _ => rfl)) fun A outer s H vs Q E hr h => ?_).imp fun vs H Q E h => ?_
  · obtain ⟨tp, a, b, rfl, e1, ha, hb, k⟩ := h
    suffices h : ∃ t, PSs (cxOf CX0 P w K mg base ["cls", "needs", "steps", "at", "need"] "Plan.alternating" (defScope sAlt) f cdv A outer s H E).nox (defBody sAlt) t ∧ t { nx := fun _ H' => Q .non H', rt := Q } (start ["cls", "needs", "steps", "at", "need"] [.ref C, .ref tp]) H by
      obtain ⟨t, h1, h2⟩ := h
      exact ⟨t, h1.nox, h2⟩
    refine ⟨_, pss_cons (ps_set (i := 2) scAlt.nd rfl (.inl rfl) (pe_lst pa_nil))
      (pss_cons (ps_for PassesOwn.never rfl (pi_enumT (by rfl) T.b.enumerate (pa_cons (pv 1) pa_nil)) (pg_tup rfl (pgs_cons (pg_name (i := 3) scAlt.nd rfl (.inl rfl)) (pgs_cons (pg_name (i := 4) scAlt.nd rfl (.inl rfl)) pgs_nil)))
        (pss_one (ps_expr (pe_bm PySem.F.plainAttrs_list PySem.F.slot_list_append PySem.F.type_list_append mt_append (pv 2) (pa_cons (pe_tup (pa_cons (pe_ifExp (pt_cmpR op_eq (pe_op op_mod (pv 3) pe_int) pe_int (nomark _)) pe_str pe_str) (pa_cons (pv 4) pa_nil))) pa_nil)))))
      (pss_one (ps_ret (pe_makeSv (i := 0) M GI hr rfl (.inl rfl) pass0 (pv 2))))), ?_⟩
    refine ⟨by show 0 ≤ sizeLine; decide, fun l hl => ?_⟩
    have e1' := (same_upd (o := .lst []) hl) _ _ e1
    refine ⟨_, rfl, tp, [.int a, .int b], rfl, SqT.of e1', ?_⟩
    refine for_it (walk_enumT (xs := [.int a, .int b])) (fun i σ H' => ∃ x y ws, σ = [some (.ref C), some (.ref tp), some (.ref l), x, y] ∧ Same H H' ∧ H' l = some (.lst ws) ∧ Steps H' ws ((altF a b).take i)) ⟨none, none, [], rfl, same_upd hl, upd_same, .nil⟩ (fun i σ H' _ ⟨_, _, _, _, s1, _⟩ => SqT.of (s1 _ _ e1)) ?_ ?_
    · rintro i v σ H1 H2 hi ⟨x, y, ws, rfl, s1, el, gs⟩ ⟨q, y1, y2, rfl, n1, rfl, z1, z2⟩
      cases z1
      have s2 : Same H1 (upd H1 q (.tup [.int (i : Nat), y2])) := same_upd n1
      refine ⟨q, _, rfl, SqT.of upd_same, rfl, _, _, rfl, _, _, rfl, rfl, ?_⟩
      have hlen : ws.length < sizeLine := by
        rw [gs.length, List.length_take, sizeLine_eq]
        have : (altF a b).length = 2 := rfl
        omega
      have step : ∀ (r : Bool) (n : Int) (t : Addr) (H3 : Hp), y2 = .int n → (altF a b).take (i + 1) = (altF a b).take i ++ [.meet r n] → H3 t = none → Same H1 H3 → ∃ x y ws', [some (V.ref C), some (.ref tp), some (.ref l), some (.int (i : Nat)), some y2] = [some (V.ref C), some (.ref tp), some (.ref l), x, y] ∧
          Same H (upd (upd H3 t (.tup [.str (roomS r), y2])) l (.lst (ws ++ [.ref t]))) ∧ upd (upd H3 t (.tup [.str (roomS r), y2])) l (.lst (ws ++ [.ref t])) l = some (.lst ws') ∧ Steps (upd (upd H3 t (.tup [.str (roomS r), y2])) l (.lst (ws ++ [.ref t]))) ws' ((altF a b).take (i + 1)) := by
        intro r n t H3 ey et ht s3
        subst ey
        have s4 := s3.trans (same_upd (o := .tup [.str (roomS r), .int n]) ht)
        have el4 := s4 _ _ el
        have keep : ∀ u xs, upd H3 t (.tup [.str (roomS r), .int n]) u = some (.tup xs) → upd (upd H3 t (.tup [.str (roomS r), .int n])) l (.lst (ws ++ [.ref t])) u = some (.tup xs) := fun u xs e => by
          rw [upd_ne (ne_of e el4 (fun q => nomatch q))]
          exact e
        refine ⟨_, _, _, rfl, same_new hl (s1.trans s4), upd_same, ?_⟩
        rw [et]
        exact ((gs.same s4).mono keep).append (.cons ⟨t, rfl, keep _ _ upd_same⟩ .nil)
      refine ⟨_, rfl, .inl ⟨rfl, _, SqL.of (s2 _ _ el)⟩, _, rfl, _, _, rfl, rfl, by show (0 : Int) < 2; decide, rfl, _, rfl, ?_⟩
      have i2 : i < 2 := hi
      have cases2 : i = 0 ∨ i = 1 := by omega
      rcases cases2 with rfl | rfl
      · have ey : y2 = .int a := (Option.some.inj z2).symm
        refine ifT (by decide +kernel) ⟨_, rfl, by show 2 ≤ sizeLine; decide, fun t ht => ⟨l, ws, _, rfl, rfl, (same_upd ht) _ _ (s2 _ _ el), hlen, ?_⟩⟩
        exact step true a t _ ey rfl ht s2
      · have ey : y2 = .int b := (Option.some.inj z2).symm
        refine ifF (by decide +kernel) ⟨_, rfl, by show 2 ≤ sizeLine; decide, fun t ht => ⟨l, ws, _, rfl, rfl, (same_upd ht) _ _ (s2 _ _ el), hlen, ?_⟩⟩
        exact step false b t _ ey rfl ht s2
    · rintro σ H1 ⟨x, y, ws, rfl, s1, el, gs⟩
      have gs : Steps H1 ws (altF a b) := gs
      refine ⟨rfl, _, rfl, l, ws, rfl, .inr (SqL.of el), fun x dx hx hdx hne => ?_⟩
      have made : Same H1 (upd (upd H1 dx (.own x)) x (.ins C dx [])) := fun b o e => by
        rw [upd_ne (ne_of_none e hx), upd_ne (ne_of_none e hdx)]
        exact e
      refine ⟨x, dx, ws, altF a b, rfl, upd_same, gs.same made, by show 2 ≤ 60; decide, fun z hz => ?_, fun H2 tz b1 b2 b3 => ?_⟩
      · simp [altF] at hz
        rcases hz with rfl | rfl
        · exact ha
        · exact hb
      · have s4 : Same H1 H2 := fun b o e => b1 b o (ne_of_none e hx) (made b o e)
        exact ⟨rfl, k x H2 (s1.trans s4) ⟨dx, tz, ws, b2, b3, gs.same s4⟩⟩
  · obtain ⟨a, b, rfl, ha, hb, k⟩ := h
    exact ⟨[.ref C], [.int a, .int b], rfl, rfl, by show 2 ≤ sizeLine; decide, fun p hp => ⟨p, a, b, rfl, upd_same, ha, hb, fun q H' s => k q H' ((same_upd hp).trans s)⟩⟩
end
end Cc

/-! Known houses: two meetings, meetings for all chairs, a meeting and a turn. -/
namespace Cc
open PySem PySem.Spec PyProof.Rows L2
theorem int_lt_or (a b : Int) : a < b ∨ b ≤ a := by omega
def twoF (a b : Int) : List Stp := [.meet true a, .meet false b]
theorem two_ok {a b c : Int} (a0 : 0 ≤ a) (a1 : a ≤ c) (b0 : 0 ≤ b) (b1 : b ≤ c) : ∀ s ∈ twoF a b, s.ok c := by
  intro s hs
  rcases (List.mem_cons.mp hs) with rfl | hs
  · exact ⟨a0, a1⟩
  · rcases (List.mem_cons.mp hs) with rfl | hs
    · exact ⟨b0, b1⟩
    · cases hs
/-- narrowing by cases -/
theorem nar_up {lo hi a b : Int} (h : hi < a) : narrowF lo hi a b = (hi, hi, a - hi, some a) := if_pos h
theorem nar_dn {lo hi a b : Int} (h : ¬ hi < a) (h2 : b < lo) : narrowF lo hi a b = (lo, lo, lo - b, some b) := by
  unfold narrowF
  rw [if_neg h, if_pos h2]
theorem nar_in {lo hi a b : Int} (h : ¬ hi < a) (h2 : ¬ b < lo) : narrowF lo hi a b = (mx lo a, (if b < hi then b else hi), 0, none) := by
  unfold narrowF
  rw [if_neg h, if_neg h2]
theorem two_sm {a b c : Int} (a0 : 0 ≤ a) (a1 : a ≤ c) (b0 : 0 ≤ b) (b1 : b ≤ c) : smSteps c (twoF a b) = if c < a + b then ⟨a, a, a + b - c, some (c - b), false⟩ else ⟨a, c - b, 0, none, false⟩ := by
  show smStep c (smStep c ⟨0, c, 0, none, false⟩ (.meet true a)) (.meet false b) = _
  have e1 : smStep c ⟨0, c, 0, none, false⟩ (.meet true a) = ⟨a, c, 0, none, false⟩ := by
    show (⟨(narrowF 0 c (allowF c false true a).1 (allowF c false true a).2).1, (narrowF 0 c (allowF c false true a).1 (allowF c false true a).2).2.1, (narrowF 0 c (allowF c false true a).1 (allowF c false true a).2).2.2.1, (narrowF 0 c (allowF c false true a).1 (allowF c false true a).2).2.2.2, false⟩ : Sm) = _
    have ea : allowF c false true a = (a, c) := rfl
    rw [ea, nar_in (by omega) (by omega), mx_eq]
    rw [if_neg (Int.lt_irrefl c), Int.max_eq_right a0]
  rw [e1]
  show (⟨(narrowF a c (allowF c false false b).1 (allowF c false false b).2).1, (narrowF a c (allowF c false false b).1 (allowF c false false b).2).2.1, (narrowF a c (allowF c false false b).1 (allowF c false false b).2).2.2.1, (narrowF a c (allowF c false false b).1 (allowF c false false b).2).2.2.2, false⟩ : Sm) = _
  have eb : allowF c false false b = (0, c - b) := rfl
  rw [eb]
  by_cases h : c < a + b
  · rw [if_pos h, nar_dn (by omega) (by omega)]
    have : a - (c - b) = a + b - c := by omega
    rw [this]
  · rw [if_neg h, nar_in (by omega) (by omega), mx_eq]
    have e2 : max a 0 = a := Int.max_eq_left a0
    have e3 : (if c - b < c then c - b else c) = c - b := by split <;> omega
    rw [e2, e3]
theorem two_end {a b s : Int} (a1 : 1 ≤ a) (b1 : 1 ≤ b) (s1 : 1 ≤ s) (sa : s ≤ a) (sb : s ≤ b) : smEnd (smSteps (a + b - s) (twoF a b)) = ⟨a, a, s, some (a - s), false⟩ := by
  rw [two_sm (by omega) (by omega) (by omega) (by omega), if_pos (by omega)]
  have e1 : a + b - (a + b - s) = s := by omega
  have e2 : a + b - s - b = a - s := by omega
  rw [e1, e2]
  unfold smEnd
  rw [if_neg (by simp)]
theorem two_set {a b c : Int} (a0 : 0 ≤ a) (a1 : a ≤ c) (b0 : 0 ≤ b) (b1 : b ≤ c) : setF c (twoF a b) = if c < a + b then 2 * (a + b - c) else 0 := by
  rw [setF_is (two_ok a0 a1 b0 b1) (by omega), two_sm a0 a1 b0 b1]
  by_cases h : c < a + b
  · rw [if_pos h, if_pos h]
    show distF a a (if false = true then _ else c - b) + (a + b - c) = _
    rw [(if_neg Bool.false_ne_true)]
    unfold distF
    rw [if_pos (by omega)]
    omega
  · rw [if_neg h, if_neg h]
    rfl
theorem two_need {a b : Int} (a0 : 0 ≤ a) (b0 : 0 ≤ b) : needF (twoF a b) = (if b > a then b else a) := by
  show mx a (mx b 0) = _
  have : mx b 0 = b := by rw [mx_eq]; omega
  rw [this]
  rfl
theorem two_spare {a b : Int} (a0 : 0 ≤ a) (b0 : 0 ≤ b) : spareF (twoF a b) = a + b := by
  unfold spareF
  have e : mostF false (twoF a b ++ twoF a b) (0, 0) = (mx (mx 0 a) a, mx (mx 0 b) b) := rfl
  rw [e, mx_eq, mx_eq, mx_eq, mx_eq]
  show max (max 0 a) a + max (max 0 b) b = _
  omega
theorem two_spared {a b c : Int} (a0 : 0 ≤ a) (b0 : 0 ≤ b) (h1 : needF (twoF a b) ≤ c) (h2 : c < a + b) : sparedF c (twoF a b) = 2 := by
  rw [two_need a0 b0] at h1
  have ha : a ≤ c := by
    split at h1 <;> omega
  have hb : b ≤ c := by
    split at h1 <;> omega
  unfold sparedF
  rw [two_set a0 ha b0 hb, two_set a0 (by omega) b0 (by omega), if_pos h2]
  split <;> omega
theorem two_best2 {a b r : Int} (a1 : 1 ≤ a) (b1 : 1 ≤ b) (h : BestF (twoF a b) 2 (1 * 1) r) : r = (if b > a then b else a) := by
  obtain ⟨h1, h2, h3, h4⟩ := h
  rw [two_spare (by omega) (by omega)] at h2 h4
  have en := two_need (a := a) (b := b) (by omega) (by omega)
  rw [← en]
  rcases int_lt_or (needF (twoF a b)) r with z | z
  · have q := h3 _ (Int.le_refl _) z
    rw [two_spared (by omega) (by omega) (Int.le_refl _) (by omega)] at q
    omega
  · omega
theorem two_best1 {a b r : Int} (a1 : 1 ≤ a) (b1 : 1 ≤ b) (h : BestF (twoF a b) 1 (1 * 1) r) : r = a + b := by
  obtain ⟨h1, h2, h3, h4⟩ := h
  rw [two_spare (by omega) (by omega)] at h2 h4
  rcases int_lt_or r (a + b) with z | z
  · have q := h4 z
    rw [two_spared (by omega) (by omega) h1 z] at q
    omega
  · omega
theorem two_step0 {a b s : Int} (a1 : 1 ≤ a) (b1 : 1 ≤ b) (s1 : 1 ≤ s) (sa : s ≤ a) (sb : s ≤ b) (t : Int) : stepsF (a + b - s) (twoF a b) (0, t) = (a - s, t + (a + s)) := by
  show stepsF (a + b - s) [.meet false b] ((stepF (a + b - s) (.meet true a) 0).1, t + (stepF (a + b - s) (.meet true a) 0).2) = _
  have e1 : stepF (a + b - s) (.meet true a) 0 = (a, a) := by
    show (0 + mx 0 (a - 0), mx 0 (a - 0)) = _
    rw [mx_eq]
    have : max 0 (a - 0) = a := by omega
    rw [this, Int.zero_add]
  rw [e1]
  have e2 : stepF (a + b - s) (.meet false b) a = (a - s, s) := by
    show (a - mx 0 (b - (a + b - s - a)), mx 0 (b - (a + b - s - a))) = _
    rw [mx_eq]
    have : max 0 (b - (a + b - s - a)) = s := by omega
    rw [this]
  show ((stepF (a + b - s) (.meet false b) a).1, t + a + (stepF (a + b - s) (.meet false b) a).2) = _
  rw [e2]
  show (a - s, t + a + s) = _
  rw [Int.add_assoc]
theorem two_stepN {a b s : Int} (a1 : 1 ≤ a) (b1 : 1 ≤ b) (s1 : 1 ≤ s) (sa : s ≤ a) (sb : s ≤ b) (t : Int) : stepsF (a + b - s) (twoF a b) (a - s, t) = (a - s, t + 2 * s) := by
  show stepsF (a + b - s) [.meet false b] ((stepF (a + b - s) (.meet true a) (a - s)).1, t + (stepF (a + b - s) (.meet true a) (a - s)).2) = _
  have e1 : stepF (a + b - s) (.meet true a) (a - s) = (a, s) := by
    show (a - s + mx 0 (a - (a - s)), mx 0 (a - (a - s))) = _
    rw [mx_eq]
    have : max 0 (a - (a - s)) = s := by omega
    rw [this]
    have : a - s + s = a := by omega
    rw [this]
  rw [e1]
  have e2 : stepF (a + b - s) (.meet false b) a = (a - s, s) := by
    show (a - mx 0 (b - (a + b - s - a)), mx 0 (b - (a + b - s - a))) = _
    rw [mx_eq]
    have : max 0 (b - (a + b - s - a)) = s := by omega
    rw [this]
  show ((stepF (a + b - s) (.meet false b) a).1, t + s + (stepF (a + b - s) (.meet false b) a).2) = _
  rw [e2]
  show (a - s, t + s + s) = _
  have : t + s + s = t + 2 * s := by omega
  rw [this]
theorem two_after {a b s : Int} (a1 : 1 ≤ a) (b1 : 1 ≤ b) (s1 : 1 ≤ s) (sa : s ≤ a) (sb : s ≤ b) : ∀ n : Nat, afterF (a + b - s) (twoF a b) 0 (n + 1) = (a - s, a + s + (n : Int) * 2 * s)
  | 0 => by
    show stepsF (a + b - s) (twoF a b) (0, 0) = _
    rw [two_step0 a1 b1 s1 sa sb]
    simp
  | n + 1 => by
    have ih := two_after a1 b1 s1 sa sb n
    unfold afterF at ih ⊢
    rw [roundsF_succ, ih, two_stepN a1 b1 s1 sa sb]
    have : ((n + 1 : Nat) : Int) * 2 * s = (n : Int) * 2 * s + 2 * s := by
      rw [Int.natCast_succ, Int.add_mul, Int.add_mul]
      omega
    rw [this, Int.add_assoc]
theorem two_ev {a b s : Int} (a1 : 1 ≤ a) (b1 : 1 ≤ b) (s1 : 1 ≤ s) (sa : s ≤ a) (sb : s ≤ b) : evF (a + b - s) 0 (twoF a b) 2 = [0, 1] := by
  have t0 : tF (a + b - s) 0 (twoF a b) 0 = 0 := rfl
  have t1 : tF (a + b - s) 0 (twoF a b) 1 = a := by
    show (0 : Int) + mx 0 (a - 0) = a
    rw [mx_eq]
    omega
  have t2 : tF (a + b - s) 0 (twoF a b) 2 = a + s := by
    have z := two_step0 a1 b1 s1 sa sb 0
    show (stepsF (a + b - s) (twoF a b) (0, 0)).2 = _
    rw [z]
    show 0 + (a + s) = a + s
    omega
  have e1 : evF (a + b - s) 0 (twoF a b) 1 = [0] := by
    show (if tF (a + b - s) 0 (twoF a b) 1 = tF (a + b - s) 0 (twoF a b) 0 then _ else pushE (twoF a b) [] 0) = _
    rw [t1, t0, if_neg (by omega)]
    rfl
  show (if tF (a + b - s) 0 (twoF a b) 2 = tF (a + b - s) 0 (twoF a b) 1 then _ else pushE (twoF a b) (evF (a + b - s) 0 (twoF a b) 1) 1) = _
  rw [t2, t1, if_neg (by omega), e1]
  rfl
theorem two_judge {a b s : Int} (a1 : 1 ≤ a) (b1 : 1 ≤ b) (s1 : 1 ≤ s) (sa : s ≤ a) (sb : s ≤ b) : GdL (twoF a b) [0, 1] ∧ mx 0 (jT (a + b - s) 0 (twoF a b) [0, 1]).1 = a + s := by
  obtain ⟨h1, h2⟩ := ev_found (c := a + b - s) (r := 0) (ss := twoF a b)
  have e : evF (a + b - s) 0 (twoF a b) (twoF a b).length = [0, 1] := two_ev a1 b1 s1 sa sb
  rw [e] at h1 h2
  refine ⟨h1, ?_⟩
  rw [h2, two_step0 a1 b1 s1 sa sb, mx_eq]
  show max 0 (0 + (a + s)) = _
  omega
theorem two_first {a b s : Int} (a1 : 1 ≤ a) (b1 : 1 ≤ b) (s1 : 1 ≤ s) (sa : s ≤ a) (sb : s ≤ b) {o : Option Int} (h : FirstF (a + b - s) (twoF a b) (twoF a (b - 1)) o) : o = some 0 := by
  have ne : outF (a + b - s) (twoF a b) 0 ≠ outF (a + b - s) (twoF a (b - 1)) 0 := by
    intro z
    have z2 : (stepsF (a + b - s) (twoF a b) (0, 0)).2 = (stepsF (a + b - s) (twoF a (b - 1)) (0, 0)).2 := by
      unfold outF at z
      first | exact congrArg Prod.fst z | exact congrArg Prod.snd z | simp at z; exact z.1 | simp at z; exact z.2
    rw [two_step0 a1 b1 s1 sa sb] at z2
    have e1 : stepF (a + b - s) (.meet true a) 0 = (a, a) := by
      show (0 + mx 0 (a - 0), mx 0 (a - 0)) = _
      rw [mx_eq]
      have : max 0 (a - 0) = a := by omega
      rw [this, Int.zero_add]
    have e3 : (stepsF (a + b - s) (twoF a (b - 1)) (0, 0)).2 = 0 + a + mx 0 (b - 1 - (a + b - s - a)) := by
      show (0 + (stepF (a + b - s) (.meet true a) 0).2) + (stepF (a + b - s) (.meet false (b - 1)) (stepF (a + b - s) (.meet true a) 0).1).2 = _
      rw [e1]
      rfl
    rw [e3, mx_eq] at z2
    have z3 : 0 + (a + s) = 0 + a + max 0 (b - 1 - (a + b - s - a)) := z2
    omega
  cases o with
  | none => exact absurd (h 0 (Int.le_refl 0) (by omega)) ne
  | some x =>
    obtain ⟨x0, x1, d, l⟩ := h
    rcases int_lt_or 0 x with z | z
    · exact absurd (l 0 (Int.le_refl 0) z) ne
    · have : x = 0 := by omega
      rw [this]
/-! ### meetings for all chairs -/
def allF (c : Int) : Nat → List Stp
  | 0 => []
  | m + 1 => allF c m ++ twoF c c
theorem all_len (c : Int) : ∀ m : Nat, (allF c m).length = 2 * m
  | 0 => rfl
  | m + 1 => by
    show (allF c m ++ twoF c c).length = _
    rw [List.length_append, all_len c m]
    show 2 * m + 2 = _
    omega
theorem all_ok {c : Int} (c0 : 0 ≤ c) : ∀ m : Nat, ∀ s ∈ allF c m, s.ok c
  | 0, s, h => nomatch h
  | m + 1, s, h => (List.mem_append.mp h).elim (all_ok c0 m s) (two_ok c0 (Int.le_refl c) c0 (Int.le_refl c) s)
theorem sm_app (c : Int) (x y : List Stp) : smSteps c (x ++ y) = y.foldl (smStep c) (smSteps c x) := by
  unfold smSteps
  rw [List.foldl_append]
theorem near_to {g a b : Int} (hab : a ≤ b) (h : a ≤ g) (h2 : g ≤ b) : nearF g a b = g := by
  rw [near_is hab]
  unfold clampF
  rw [if_neg (by omega), (if_neg (by omega))]
theorem near_lo {g a b : Int} (hab : a ≤ b) (h : g ≤ a) : nearF g a b = a := by
  rw [near_is hab]
  unfold clampF
  split
  · rfl
  · rw [if_neg (by omega)]
    omega
theorem near_hi {g a b : Int} (hab : a ≤ b) (h : b ≤ g) : nearF g a b = b := by
  rw [near_is hab]
  unfold clampF
  rw [if_neg (by omega)]
  split
  · rfl
  · omega
theorem step_some (c : Int) (lo hi ex g : Int) (t b : Bool) (n : Int) : smStep c ⟨lo, hi, ex, some g, t⟩ (.meet b n) = ⟨lo, hi, ex + ab (nearF g (allowF c t b n).1 (allowF c t b n).2 - g), some (nearF g (allowF c t b n).1 (allowF c t b n).2), t⟩ := rfl
theorem all_sm {c : Int} (c1 : 1 ≤ c) : ∀ m : Nat, smSteps c (allF c (m + 1)) = ⟨c, c, (2 * (m : Int) + 1) * c, some 0, false⟩
  | 0 => by
    show smSteps c (twoF c c) = _
    rw [two_sm (by omega) (Int.le_refl c) (by omega) (Int.le_refl c), if_pos (by omega)]
    have e1 : c + c - c = (2 * ((0 : Nat) : Int) + 1) * c := by simp
    have e2 : c - c = 0 := by omega
    rw [e2, e1]
  | m + 1 => by
    have ih := all_sm c1 m
    show smSteps c (allF c (m + 1) ++ twoF c c) = _
    rw [sm_app, ih]
    show smStep c (smStep c ⟨c, c, (2 * (m : Int) + 1) * c, some 0, false⟩ (.meet true c)) (.meet false c) = _
    have ea : allowF c false true c = (c, c) := rfl
    have eb : allowF c false false c = (0, c - c) := rfl
    rw [step_some, ea]
    dsimp only
    rw [near_lo (Int.le_refl c) (by omega), step_some, eb]
    dsimp only
    rw [near_hi (by omega) (by omega)]
    have e1 : (2 * (m : Int) + 1) * c + ab (c - 0) + ab (c - c - c) = (2 * ((m + 1 : Nat) : Int) + 1) * c := by
      have a1 : ab (c - 0) = c := by unfold ab; split <;> omega
      have a2 : ab (c - c - c) = c := by unfold ab; split <;> omega
      rw [a1, a2, Int.natCast_succ]
      have : 2 * ((m : Int) + 1) + 1 = (2 * (m : Int) + 1) + 2 := by omega
      rw [this, Int.add_mul _ 2]
      omega
    have e2 : c - c = 0 := by omega
    rw [e1, e2]
theorem all_end {c : Int} (c1 : 1 ≤ c) (m : Nat) : smEnd (smSteps c (allF c (m + 1))) = ⟨c, c, (2 * (m : Int) + 1) * c, some 0, false⟩ := by
  rw [all_sm c1 m]
  unfold smEnd
  rw [if_neg (by simp)]
theorem all_set {c : Int} (c1 : 1 ≤ c) (m : Nat) : setF c (allF c (m + 1)) = 2 * ((m + 1 : Nat) : Int) * c := by
  rw [setF_is (all_ok (by omega) _) (by omega), all_sm c1 m]
  show distF c c (if false = true then _ else 0) + (2 * (m : Int) + 1) * c = _
  rw [(if_neg Bool.false_ne_true)]
  unfold distF
  have e : 2 * ((m + 1 : Nat) : Int) * c = (2 * (m : Int) + 1) * c + c := by
    rw [show 2 * ((m + 1 : Nat) : Int) = (2 * (m : Int) + 1) + 1 by omega, Int.add_mul _ 1, Int.one_mul]
  rw [if_pos (by omega), e]
  omega
theorem lenF_le {c : Int} : ∀ (a : Int) (r : List Int), (∀ x ∈ a :: r, 0 ≤ x ∧ x ≤ c) → lenF (a :: r) ≤ (r.length : Int) * c
  | a, [], _ => by
    show (0 : Int) ≤ ((0 : Nat) : Int) * c
    simp
  | a, b :: r, h => by
    have ih := lenF_le b r fun x hx => h x (List.mem_cons_of_mem _ hx)
    have ha := h a (by simp)
    have hb := h b (by simp)
    show ab (b - a) + lenF (b :: r) ≤ ((r.length + 1 : Nat) : Int) * c
    rw [Int.natCast_succ, Int.add_mul]
    have : ab (b - a) ≤ c := by unfold ab; split <;> omega
    omega
theorem way_le {c s g : Int} (c0 : 0 ≤ c) (s0 : 0 ≤ s) (s1 : s ≤ c) (g0 : 0 ≤ g) (g1 : g ≤ c) (n : Nat) : lenF (wayF c s g n) ≤ ((n : Int) + 1) * c := by
  have h := way_in c0 s0 s1 g0 g1 n
  have hl := way_len c s g n
  match wayF c s g n, h, hl with
  | x :: r, h, hl =>
    have z := lenF_le x r h
    have e : (r.length : Int) = (n : Int) + 1 := by
      rw [List.length_cons] at hl
      omega
    rw [e] at z
    exact z
theorem lenF_sway {c : Int} (c0 : 0 ≤ c) : ∀ n : Nat, lenF (swayF c 0 (n + 1)) = (n : Int) * c ∧ lenF (swayF 0 c (n + 1)) = (n : Int) * c
  | 0 => by
    have e1 : lenF (swayF c 0 (0 + 1)) = 0 := rfl
    have e2 : lenF (swayF 0 c (0 + 1)) = 0 := rfl
    rw [e1, e2]
    simp
  | n + 1 => by
    obtain ⟨h1, h2⟩ := lenF_sway c0 n
    rw [sway_cons] at h1 h2
    have e1 : lenF (swayF c 0 (n + 1 + 1)) = ab (0 - c) + lenF (0 :: swayF c 0 n) := by
      rw [sway_cons, sway_cons]
      rfl
    have e2 : lenF (swayF 0 c (n + 1 + 1)) = ab (c - 0) + lenF (c :: swayF 0 c n) := by
      rw [sway_cons, sway_cons]
      rfl
    have a1 : ab (0 - c) = c := by unfold ab; split <;> omega
    have a2 : ab (c - 0) = c := by unfold ab; split <;> omega
    rw [e1, e2, h1, h2, a1, a2, Int.natCast_succ, Int.add_mul]
    omega
theorem all_way0 {c : Int} (c0 : 0 ≤ c) (m : Nat) : (2 * (m : Int) + 1) * c ≤ lenF (wayF c c 0 (2 * m)) := by
  have z := (way_ge c c 0 (2 * m)).2
  have e : c :: (swayF 0 c (2 * m) ++ [0]) = swayF c 0 (2 * m + 1 + 1) := by
    rw [sway_snoc, if_neg (by omega), sway_cons]
    rfl
  rw [e, (lenF_sway c0 (2 * m + 1)).1] at z
  have : ((2 * m + 1 : Nat) : Int) = 2 * (m : Int) + 1 := by omega
  rw [this] at z
  exact z
theorem all_way1 {c : Int} (c0 : 0 ≤ c) (m : Nat) : (2 * (m : Int) + 1) * c + 1 ≤ lenF (wayF c c 1 (2 * m + 1)) := by
  have z := (way_ge c c 1 (2 * m + 1)).2
  have e : c :: (swayF 0 c (2 * m + 1) ++ [1]) = swayF c 0 (2 * m + 1) ++ [0, 1] := by
    have e1 : c :: (swayF 0 c (2 * m + 1) ++ [1]) = swayF c 0 (2 * m + 1 + 1) ++ [1] := by
      rw [sway_cons c 0 (2 * m + 1)]
      rfl
    rw [e1, sway_snoc, if_neg (by omega), List.append_assoc]
    rfl
  rw [e, lenF_snoc] at z
  have e2 : swayF c 0 (2 * m + 1) ++ [0] = swayF c 0 (2 * m + 1 + 1) := by
    rw [sway_snoc c 0 (2 * m + 1), if_neg (by omega)]
  rw [e2, (lenF_sway c0 (2 * m + 1)).1] at z
  have : ((2 * m + 1 : Nat) : Int) = 2 * (m : Int) + 1 := by omega
  rw [this] at z
  exact z
theorem simple_len {c : Int} {m : Sm} {z : Int} (h : m.extra ≠ 0) (hg : m.goal = some z) (ht : m.turned = false) : (simpleM c m).length = fewB c m.low z m.extra 60 0 + 2 := by
  unfold simpleM
  rw [if_neg h, hg, ht, if_neg Bool.false_ne_true, List.append_nil, thru_len]
  show (nearerF _ _).length = _
  rw [near_len, way_len]
  rfl
theorem mul_lt {a b c : Int} (h : a < b) (c1 : 1 ≤ c) : a * c < b * c := Int.mul_lt_mul_of_pos_right h (by omega)
theorem all_simple {c : Int} (c1 : 1 ≤ c) (m : Nat) (hm : m ≤ 20) : (simpleF c (allF c (m + 1))).length = 2 * (m + 1) := by
  have p : 0 < (2 * (m : Int) + 1) * c := Int.mul_pos (by omega) (by omega)
  unfold simpleF
  rw [all_end c1 m, simple_len (z := 0) (by show (2 * (m : Int) + 1) * c ≠ 0; omega) rfl rfl]
  show fewB c c 0 ((2 * (m : Int) + 1) * c) 60 0 + 2 = _
  rw [fewB_is (b := 2 * m) (all_way0 (by omega) m) (fun k hk => ?_) (by omega)]
  · omega
  · have z := way_le (c := c) (s := c) (g := 0) (by omega) (by omega) (Int.le_refl c) (Int.le_refl 0) (by omega) k
    have y : ((k : Int) + 1) * c < (2 * (m : Int) + 1) * c := mul_lt (by omega) c1
    omega
def moreF (c : Int) (m : Nat) : List Stp := allF c m ++ [.meet true 1, .turn, .turn]
theorem more_end {c : Int} (c1 : 1 ≤ c) (m : Nat) : smEnd (smSteps c (moreF c (m + 1))) = ⟨c, c, (2 * (m : Int) + 1) * c + 1, some 1, false⟩ := by
  unfold moreF
  rw [sm_app, all_sm c1 m]
  show smEnd (smStep c (smStep c (smStep c ⟨c, c, (2 * (m : Int) + 1) * c, some 0, false⟩ (.meet true 1)) .turn) .turn) = _
  have ea : allowF c false true 1 = (1, c) := rfl
  rw [step_some, ea]
  dsimp only
  rw [near_lo c1 (by omega)]
  have a1 : ab (1 - 0) = 1 := by
    unfold ab
    decide
  rw [a1]
  show smEnd ⟨c, c, (2 * (m : Int) + 1) * c + 1, some 1, false⟩ = _
  unfold smEnd
  rw [if_neg (by simp)]
theorem more_simple {c : Int} (c1 : 1 ≤ c) (m : Nat) (hm : m ≤ 20) : (simpleF c (moreF c (m + 1))).length = 2 * (m + 1) + 1 := by
  have p : 0 < (2 * (m : Int) + 1) * c := Int.mul_pos (by omega) (by omega)
  unfold simpleF
  rw [more_end c1 m, simple_len (z := 1) (by show (2 * (m : Int) + 1) * c + 1 ≠ 0; omega) rfl rfl]
  show fewB c c 1 ((2 * (m : Int) + 1) * c + 1) 60 0 + 2 = _
  have hf : fewB c c 1 ((2 * (m : Int) + 1) * c + 1) 60 0 = 2 * m + 1 := by
    refine fewB_is (all_way1 (by omega) m) (fun k hk => ?_) (by omega)
    have z := way_le (c := c) (s := c) (g := 1) (by omega) (by omega) (Int.le_refl c) (by omega) c1 k
    have y : ((k : Int) + 1) * c ≤ (2 * (m : Int) + 1) * c := Int.mul_le_mul_of_nonneg_right (by omega) (by omega)
    omega
  rw [hf]
  omega
/-! ### a meeting and a turn -/
def turF (a : Int) : List Stp := [.meet true a, .turn]
theorem tur_ok {a c : Int} (a0 : 0 ≤ a) (a1 : a ≤ c) : ∀ s ∈ turF a, s.ok c := by
  intro s hs
  rcases (List.mem_cons.mp hs) with rfl | hs
  · exact ⟨a0, a1⟩
  · rcases (List.mem_cons.mp hs) with rfl | hs
    · trivial
    · cases hs
theorem tur_sm {a c : Int} (a0 : 0 ≤ a) (a1 : a ≤ c) : smSteps c (turF a) = ⟨a, c, 0, none, true⟩ := by
  show smStep c (smStep c ⟨0, c, 0, none, false⟩ (.meet true a)) .turn = _
  have e1 : smStep c ⟨0, c, 0, none, false⟩ (.meet true a) = ⟨a, c, 0, none, false⟩ := by
    show (⟨(narrowF 0 c (allowF c false true a).1 (allowF c false true a).2).1, (narrowF 0 c (allowF c false true a).1 (allowF c false true a).2).2.1, (narrowF 0 c (allowF c false true a).1 (allowF c false true a).2).2.2.1, (narrowF 0 c (allowF c false true a).1 (allowF c false true a).2).2.2.2, false⟩ : Sm) = _
    have ea : allowF c false true a = (a, c) := rfl
    rw [ea, nar_in (by omega) (by omega), mx_eq]
    rw [if_neg (Int.lt_irrefl c), Int.max_eq_right a0]
  rw [e1]
  rfl
theorem tur_end {a c : Int} (a0 : 0 ≤ a) (a1 : a ≤ c) : smEnd (smSteps c (turF a)) = ⟨a, c, 0, if a < c then none else some a, true⟩ := by
  rw [tur_sm a0 a1]
  unfold smEnd
  by_cases h : a < c
  · rw [if_pos h, (if_neg (by simp; omega))]
  · rw [if_neg h, (if_pos (by simp; omega))]
theorem tur_set {a s : Int} (s1 : 1 ≤ s) (sa : s ≤ a) : setF (2 * a - s) (turF a) = s := by
  rw [setF_is (tur_ok (by omega) (by omega)) (by omega), tur_sm (by omega) (by omega)]
  show (if true = true then (if 2 * (2 * a - s) < 2 * a - s then 2 * a - s - 2 * (2 * a - s) else if 2 * a - s < 2 * a then 2 * a - (2 * a - s) else 0) else 0) = s
  rw [if_pos rfl, if_neg (by omega), if_pos (by omega)]
  omega
theorem tur_spare {a : Int} (a0 : 0 ≤ a) : spareF (turF a) = 2 * a := by
  unfold spareF
  have e : mostF false (turF a ++ turF a) (0, 0) = (mx 0 a, mx 0 a) := rfl
  rw [e, mx_eq]
  show max 0 a + max 0 a = _
  omega
theorem tur_step {a c r t : Int} : stepsF c (turF a) (r, t) = (c - (r + mx 0 (a - r)), t + mx 0 (a - r) + 0) := rfl
theorem tur_one {a s : Int} (s1 : 1 ≤ s) (sa : s ≤ a) : afterF (2 * a - s) (turF a) a 1 = (2 * a - s - a, 0) := by
  show stepsF (2 * a - s) (turF a) (a, 0) = _
  rw [tur_step, mx_eq]
  have e : max 0 (a - a) = 0 := by omega
  rw [e]
  simp
theorem tur_two {a s : Int} (s1 : 1 ≤ s) (sa : s ≤ a) : (afterF (2 * a - s) (turF a) a 2).2 = s := by
  have e2 : afterF (2 * a - s) (turF a) a 2 = stepsF (2 * a - s) (turF a) (afterF (2 * a - s) (turF a) a 1) := by
    unfold afterF
    exact roundsF_succ _ _ 1 _
  rw [e2, tur_one s1 sa, tur_step, mx_eq]
  show 0 + max 0 (a - (2 * a - s - a)) + 0 = s
  omega
end Cc

namespace Cc
open PySem PySem.Spec PyProof.Rows L2
def spLaw (K : PySem.W.Frag) : Sp := fun vs H Q _ => ∃ (a : Addr) (ns : List Int), vs = [.ref a] ∧ SqF K H a (ns.map V.int) ∧ ns.length ≤ 63 ∧ ∀ H', Q (.bl true) H'
/-! ### tuples of plain values, compared -/
def plD : V → PyData
  | .int i => .int i
  | .bl b => .bool b
  | _ => .none
def Plain0 (v : V) : Prop := (∃ i, v = .int i) ∨ (∃ b, v = .bl b) ∨ v = .non
theorem pl_all {K : PySem.W.Frag} {H : Hp} : ∀ {xs : List V}, (∀ x ∈ xs, Plain0 x) → DpAll K H xs (xs.map plD) ∧ PyData.canLayAll0 (xs.map plD) = true ∧ PyData.depthAll (xs.map plD) = 0 ∧ PyData.eqvAll (xs.map plD) (xs.map plD) = true
  | [], _ => ⟨.nil, by simp [PyData.canLayAll0], by simp [PyData.depthAll], by simp [PyData.eqvAll]⟩
  | x :: xs, h => by
    obtain ⟨a, b, c, d⟩ := pl_all (K := K) (H := H) fun y hy => h y (List.mem_cons_of_mem x hy)
    rcases h x List.mem_cons_self with ⟨i, rfl⟩ | ⟨y, rfl⟩ | rfl
    · exact ⟨.cons (.int i) a, by simp [PyData.canLayAll0, PyData.canLay0, plD, b], by simp [PyData.depthAll, PyData.depth, plD, c], by simp [PyData.eqvAll, PyData.eqv, plD, d]⟩
    · exact ⟨.cons (.bl y) a, by simp [PyData.canLayAll0, PyData.canLay0, plD, b], by simp [PyData.depthAll, PyData.depth, plD, c], by simp [PyData.eqvAll, PyData.eqv, plD, d]⟩
    · exact ⟨.cons .non a, by simp [PyData.canLayAll0, PyData.canLay0, plD, b], by simp [PyData.depthAll, PyData.depth, plD, c], by simp [PyData.eqvAll, PyData.eqv, plD, d]⟩
theorem do_neT {K : PySem.W.Frag} {H : Hp} {p q : Addr} {xs : List V} {Q : VK} (hp : SqT K H p xs) (hq : SqT K H q xs) (hx : ∀ x ∈ xs, Plain0 x) (k : Q (.bl false) H) : rNeD K (.ref p) (.ref q) H Q := by
  obtain ⟨a, b, c, d⟩ := pl_all (K := K) (H := H) hx
  refine ⟨.tuple (xs.map plD), .tuple (xs.map plD), .tup hp a, .tup hq a, by simp [SeqAt.shaped, PyData.canLay0, PyData.depth, b, c], by simp [SeqAt.shaped, PyData.canLay0, PyData.depth, b, c], ?_⟩
  have e : PyData.eqv (.tuple (xs.map plD)) (.tuple (xs.map plD)) = true := by simp [PyData.eqv, d]
  rw [e]
  exact k
theorem do_neL {K : PySem.W.Frag} {H : Hp} {p q : Addr} {ns : List Int} {Q : VK} (hp : SqL K H p (ns.map V.int)) (hq : SqL K H q (ns.map V.int)) (k : Q (.bl false) H) : rNeD K (.ref p) (.ref q) H Q := by
  refine ⟨.list (ns.map PyData.int), .list (ns.map PyData.int), .lst hp (dp_ints ns), .lst hq (dp_ints ns), shaped_list ns, shaped_list ns, ?_⟩
  rw [eqv_selfs]
  exact k
theorem plain_sm (m : Sm) : ∀ x ∈ smV m, Plain0 x := by
  intro x hx
  obtain ⟨lo, hi, ex, go, tu⟩ := m
  have h : x = .int lo ∨ x = .int hi ∨ x = .int ex ∨ x = goalV go ∨ x = .bl tu := by simpa [smV] using hx
  rcases h with rfl | rfl | rfl | rfl | rfl
  · exact .inl ⟨_, rfl⟩
  · exact .inl ⟨_, rfl⟩
  · exact .inl ⟨_, rfl⟩
  · cases go with
    | none => exact .inr (.inr rfl)
    | some z => exact .inl ⟨_, rfl⟩
  · exact .inr (.inl ⟨_, rfl⟩)
theorem plain_pair (a b : Int) : ∀ x ∈ [V.int a, V.int b], Plain0 x := by
  intro x hx
  have h : x = .int a ∨ x = .int b := by simpa using hx
  rcases h with rfl | rfl
  · exact .inl ⟨_, rfl⟩
  · exact .inl ⟨_, rfl⟩
/-- a plan, just made -/
theorem mk_plan {C : Addr} {H H2 : Hp} {q dq tz : Addr} {ws : List V} {ss : List Stp} (hq : H q = none) (hdq : H dq = none) (g : Steps H ws ss)
    (b4 : But q (upd (upd H dq (.own q)) q (.ins C dq [])) H2) (b5 : H2 q = some (.ins C dq [("step_tuple", .ref tz)])) (b6 : H2 tz = some (.tup ws)) : Same H H2 ∧ PlanAt C H2 q ss := by
  have s : Same H H2 := fun b o e => b4 b o (ne_of_none e hq) (by rw [upd_ne (ne_of_none e hq), upd_ne (ne_of_none e hdq)]; exact e)
  exact ⟨s, dq, tz, ws, b5, b6, g.same s⟩
theorem mk_same {C : Addr} {H : Hp} {q dq : Addr} (hq : H q = none) (hdq : H dq = none) : Same H (upd (upd H dq (.own q)) q (.ins C dq [])) := fun b o e => by
  rw [upd_ne (ne_of_none e hq), upd_ne (ne_of_none e hdq)]
  exact e
def spTwo : Sp := fun vs H Q _ => ∃ (a b s n : Int), vs = [.int a, .int b, .int s, .int n] ∧ 1 ≤ a ∧ a ≤ 100000000000000000 ∧ 1 ≤ b ∧ b ≤ 100000000000000000 ∧ 1 ≤ s ∧ s ≤ a ∧ s ≤ b ∧ 1 ≤ n ∧ n ≤ 100000000000000000 ∧ ∀ H', Same H H' → Q (.bl true) H'
def spAll : Sp := fun vs H Q _ => ∃ (c m : Int), vs = [.int c, .int m] ∧ 1 ≤ c ∧ c ≤ 100000000000000000 ∧ 1 ≤ m ∧ m ≤ 5 ∧ ∀ H', Same H H' → Q (.bl true) H'
def spTur : Sp := fun vs H Q _ => ∃ (a s : Int), vs = [.int a, .int s] ∧ 1 ≤ s ∧ s ≤ a ∧ a ≤ 100000000000000000 ∧ ∀ H', Same H H' → Q (.bl true) H'
section
variable {P : Program} {w : World} {K : PySem.W.Frag} {mg : Str → Option Value} {base : Heap} {C TU pS gS : Addr} {mc : Value}
abbrev s__law_two_meetings : Stmt := top 61
abbrev n__law_two_meetings : List Str := ["_law_a", "_law_b", "_law_short", "_law_rounds", "_law_plan", "_law_chairs"]
theorem sc__law_two_meetings : FnScope n__law_two_meetings ["_law_a", "_law_b", "_law_short", "_law_rounds"] (defScope s__law_two_meetings) := ⟨rfl, rfl, rfl, by decide +kernel, rfl, by decide +kernel, by decide +kernel⟩
theorem ok__law_two_meetings {f fI f_long_run f_summary f_total_carried f_red_chairs f_saving f_fewest_chairs f_sparing_chairs f_judge_evidence f_find_evidence f_best_chairs f_first_difference : Addr} {fd : FuncData} (F : Fun K "_law_two_meetings" "_law_two_meetings" s__law_two_meetings f fd) (T : Txt K mg C TU pS gS mc) (M : Mk K C fI) (GI : FnR P w K mg base CX0 3 fI (spInit C)) (D_long_run : Dn P w K mg base 5 "long_run" f_long_run (spLong C)) (D_summary : Dn P w K mg base 4 "summary" f_summary (spSummary C)) (D_total_carried : Dn P w K mg base 6 "total_carried" f_total_carried (spTotal C)) (D_red_chairs : Dn P w K mg base 6 "red_chairs" f_red_chairs (spRedC C)) (D_saving : Dn P w K mg base 6 "saving" f_saving (spSaving C)) (D_fewest_chairs : Dn P w K mg base 3 "fewest_chairs" f_fewest_chairs (spFewest C)) (D_sparing_chairs : Dn P w K mg base 3 "sparing_chairs" f_sparing_chairs (spSparing C)) (D_judge_evidence : Dn P w K mg base 5 "judge_evidence" f_judge_evidence (spJudge C)) (D_find_evidence : Dn P w K mg base 5 "find_evidence" f_find_evidence (spFind C)) (D_best_chairs : Dn P w K mg base 6 "best_chairs" f_best_chairs (spBest C)) (D_first_difference : Dn P w K mg base 6 "first_difference" f_first_difference (spFirst C)) : FnOk P w K mg base CX0 8 f fd ["_law_a", "_law_b", "_law_short", "_law_rounds"] spTwo := by
  refine F.ok sc__law_two_meetings (fun vs H Q E h => ?_) (fun cdv A outer s H vs Q E hr h => ?_)
  · obtain ⟨a, b, s, n, rfl, _⟩ := h
    rfl
  · obtain ⟨a, b, st, n, rfl, a1, a9, b1, b9, s1, sa, sb, n1, n9, k⟩ := h
    refine ⟨_, pss_cons (ps_par (i := 4) (j := 5) rfl sc__law_two_meetings.nd rfl rfl (by decide) rfl rfl (pa_cons (StX.pe_makeR M GI (hr.mono (by decide)) rfl T.gP pass0 (pa_cons (pe_tup (pa_cons pe_str (pa_cons (pv 0) pa_nil))) (pa_cons (pe_tup (pa_cons pe_str (pa_cons (pv 1) pa_nil))) pa_nil))) (pa_cons (pe_op op_sub (pe_op op_add (pv 0) (pv 1)) (pv 2)) pa_nil)) (by rfl))
      (pss_cons (ps_if (PW.pt (pw_or (pt_cmpR (op_neD hr.units) (pe_callR D_summary.ok (hr.mono (by decide)) rfl D_summary.at_ D_summary.kp pass0 (pa_cons (pv 4) (pa_cons (pv 5) pa_nil))) (pe_tup (pa_cons (pv 0) (pa_cons (pv 0) (pa_cons (pv 2) (pa_cons (pe_op op_sub (pv 0) (pv 2)) (pa_cons pe_bl pa_nil)))))) (nomark _)) (pw_or1 (pt_cmpR (op_neD hr.units) (pe_callR D_long_run.ok (hr.mono (by decide)) rfl D_long_run.at_ D_long_run.kp pass0 (pa_cons (pv 4) (pa_cons (pv 5) pa_nil))) (pe_tup (pa_cons (pe_op op_mul pe_int (pv 2)) (pa_cons pe_int pa_nil))) (nomark _)))))
        (pss_one (ps_ret pe_bl)) pss_nil)
      (pss_cons (ps_if (pt_cmpR op_ne (pe_callR D_total_carried.ok (hr.mono (by decide)) rfl D_total_carried.at_ D_total_carried.kp pass0 (pa_cons (pv 4) (pa_cons (pv 5) (pa_cons pe_int (pa_cons (pv 3) pa_nil))))) (pe_op op_add (pe_op op_add (pv 0) (pv 2)) (pe_op op_mul (pe_op op_mul (pe_op op_sub (pv 3) pe_int) pe_int) (pv 2))) (nomark _))
        (pss_one (ps_ret pe_bl)) pss_nil)
      (pss_cons (ps_if (pt_cmpR op_ne (pe_callR D_red_chairs.ok (hr.mono (by decide)) rfl D_red_chairs.at_ D_red_chairs.kp pass0 (pa_cons (pv 4) (pa_cons (pv 5) (pa_cons pe_int (pa_cons (pv 3) pa_nil))))) (pe_op op_sub (pv 0) (pv 2)) (nomark _))
        (pss_one (ps_ret pe_bl)) pss_nil)
      (pss_cons (ps_if (PW.pt (pw_or (pt_cmpR op_ne (pe_callR D_sparing_chairs.ok (hr.mono (by decide)) rfl D_sparing_chairs.at_ D_sparing_chairs.kp pass0 (pa_cons (pv 4) pa_nil)) (pe_op op_add (pv 0) (pv 1)) (nomark _)) (pw_or (pt_cmpR op_ne (pe_callR D_fewest_chairs.ok (hr.mono (by decide)) rfl D_fewest_chairs.at_ D_fewest_chairs.kp pass0 (pa_cons (pv 4) pa_nil)) (pe_callB (call_max2 rfl) (by rfl) T.b.max (by decide +kernel) (pa_cons (pv 0) (pa_cons (pv 1) pa_nil))) (nomark _)) (pw_or1 (pt_cmpR (op_neD hr.units) (pe_callR D_saving.ok (hr.mono (by decide)) rfl D_saving.at_ D_saving.kp pass0 (pa_cons (pv 4) (pa_cons (pv 5) pa_nil))) (pe_tup (pa_cons pe_int (pa_cons pe_int pa_nil))) (nomark _))))))
        (pss_one (ps_ret pe_bl)) pss_nil)
      (pss_cons (ps_if (PW.pt (pw_or (pt_cmpR (op_neD hr.units) (pe_callR D_find_evidence.ok (hr.mono (by decide)) rfl D_find_evidence.at_ D_find_evidence.kp pass0 (pa_cons (pv 4) (pa_cons (pv 5) (pa_cons pe_int pa_nil)))) (pe_lst (pa_cons pe_int (pa_cons pe_int pa_nil))) (nomark _)) (pw_or1 (pt_cmpR op_ne (pe_callR D_judge_evidence.ok (hr.mono (by decide)) rfl D_judge_evidence.at_ D_judge_evidence.kp pass0 (pa_cons (pv 4) (pa_cons (pv 5) (pa_cons pe_int (pa_cons (pe_lst (pa_cons pe_int (pa_cons pe_int pa_nil))) pa_nil))))) (pe_op op_add (pv 0) (pv 2)) (nomark _)))))
        (pss_one (ps_ret pe_bl)) pss_nil)
      (pss_cons (ps_if (PW.pt (pw_or (pt_cmpR op_ne (pe_callR D_best_chairs.ok (hr.mono (by decide)) rfl D_best_chairs.at_ D_best_chairs.kp pass0 (pa_cons (pv 4) (pa_cons pe_int (pa_cons pe_int (pa_cons pe_int pa_nil))))) (pe_callB (call_max2 rfl) (by rfl) T.b.max (by decide +kernel) (pa_cons (pv 0) (pa_cons (pv 1) pa_nil))) (nomark _)) (pw_or1 (pt_cmpR op_ne (pe_callR D_best_chairs.ok (hr.mono (by decide)) rfl D_best_chairs.at_ D_best_chairs.kp pass0 (pa_cons (pv 4) (pa_cons pe_int (pa_cons pe_int (pa_cons pe_int pa_nil))))) (pe_op op_add (pv 0) (pv 1)) (nomark _)))))
        (pss_one (ps_ret pe_bl)) pss_nil)
      (pss_one (ps_ret (pe_cmpR op_eq (pe_callR D_first_difference.ok (hr.mono (by decide)) rfl D_first_difference.at_ D_first_difference.kp pass0 (pa_cons (pv 4) (pa_cons (StX.pe_makeR M GI (hr.mono (by decide)) rfl T.gP pass0 (pa_cons (pe_tup (pa_cons pe_str (pa_cons (pv 0) pa_nil))) (pa_cons (pe_tup (pa_cons pe_str (pa_cons (pe_op op_sub (pv 1) pe_int) pa_nil))) pa_nil))) (pa_cons (pv 5) pa_nil)))) pe_int (nomark _)))))))))), ?_⟩
    have c0 : 0 ≤ a + b - st := by omega
    have c18 : a + b - st ≤ 1000000000000000000 := by omega
    have ok : ∀ s ∈ twoF a b, s.ok (a + b - st) := two_ok (by omega) (by omega) (by omega) (by omega)
    have ok18 : ∀ s ∈ twoF a b, s.ok 1000000000000000000 := two_ok (by omega) (by omega) (by omega) (by omega)
    have okb : ∀ s ∈ twoF a (b - 1), s.ok (a + b - st) := two_ok (by omega) (by omega) (by omega) (by omega)
    have okb18 : ∀ s ∈ twoF a (b - 1), s.ok 1000000000000000000 := two_ok (by omega) (by omega) (by omega) (by omega)
    have l2 : (twoF a b).length ≤ 60 := by show 2 ≤ 60; decide
    have lb : (twoF a (b - 1)).length ≤ 60 := by show 2 ≤ 60; decide
    have z2 : 2 ≤ sizeLine := by decide
    refine ⟨_, rfl, z2, fun t1 ht1 => ⟨_, rfl, z2, fun t2 ht2 => fun p dp hp hdp hne => ?_⟩⟩
    have s01 := (same_upd (o := .tup [.str "red", .int a]) ht1).trans (same_upd (o := .tup [.str "blue", .int b]) ht2)
    have g1 : Steps (upd (upd H t1 (.tup [.str "red", .int a])) t2 (.tup [.str "blue", .int b])) [.ref t1, .ref t2] (twoF a b) := .cons ⟨t1, rfl, (same_upd ht2) _ _ upd_same⟩ (.cons ⟨t2, rfl, upd_same⟩ .nil)
    refine ⟨p, dp, [.ref t1, .ref t2], twoF a b, rfl, upd_same, g1.same (mk_same hp hdp), l2, ok18, fun H2 tz b4 b5 b6 => ⟨rfl, ?_⟩⟩
    obtain ⟨s12, P2⟩ := mk_plan hp hdp g1 b4 b5 b6
    have S2 := s01.trans s12
    refine ⟨_, rfl, _, rfl, _, _, rfl, rfl, _, rfl, _, _, rfl, rfl, _, _, rfl, ?_⟩
    clear s12 s01 b4 b5 b6 g1
    -- the summary, the long run
    refine ⟨_, rfl, _, rfl, p, twoF a b, a + b - st, rfl, P2, c0, c18, ok, l2, fun q1 H3 s3 e3 => ⟨_, rfl, _, rfl, _, rfl, _, rfl, _, rfl, _, _, rfl, rfl, by show 5 ≤ sizeLine; decide, fun t3 ht3 => ?_⟩⟩
    rw [two_end a1 b1 s1 sa sb] at e3
    refine do_neT (xs := smV ⟨a, a, st, some (a - st), false⟩) (SqT.of ((same_upd ht3) _ _ e3)) (SqT.of upd_same) (plain_sm _) ⟨_, rfl, iteF ?_⟩
    have S3 := S2.trans (s3.trans (same_upd (o := .tup [.int a, .int a, .int st, .int (a - st), .bl false]) ht3))
    have P3 := P2.same (s3.trans (same_upd (o := .tup [.int a, .int a, .int st, .int (a - st), .bl false]) ht3))
    generalize upd H3 t3 (.tup [.int a, .int a, .int st, .int (a - st), .bl false]) = H4 at *
    refine ⟨_, rfl, _, rfl, p, twoF a b, a + b - st, rfl, ⟨P3, l2, ok, c0, by omega⟩, c18, fun q2 H5 s5 e5 => ⟨_, rfl, _, _, rfl, rfl, .inl ⟨by decide, by decide⟩, z2, fun t5 ht5 => ?_⟩⟩
    rw [two_set (by omega) (by omega) (by omega) (by omega), if_pos (by omega)] at e5
    have eL : 2 * (a + b - (a + b - st)) = 2 * st := by omega
    rw [eL] at e5
    refine do_neT (SqT.of ((same_upd ht5) _ _ e5)) (SqT.of upd_same) (plain_pair _ _) ⟨_, rfl, iteF ?_⟩
    have S5 := S3.trans (s5.trans (same_upd (o := .tup [.int (2 * st), .int 1]) ht5))
    have P5 := P3.same (s5.trans (same_upd (o := .tup [.int (2 * st), .int 1]) ht5))
    generalize upd H5 t5 (.tup [.int (2 * st), .int 1]) = H6 at *
    -- what is carried, where it ends
    obtain ⟨kn, hkn⟩ : ∃ kn : Nat, n = (kn : Int) + 1 := ⟨(n - 1).toNat, by omega⟩
    have ea : afterF (a + b - st) (twoF a b) 0 n.toNat = (a - st, a + st + (n - 1) * 2 * st) := by
      have e1 : n.toNat = kn + 1 := by omega
      have e2 : n - 1 = (kn : Int) := by omega
      rw [e1, e2, two_after a1 b1 s1 sa sb]
    refine ⟨_, rfl, _, rfl, _, rfl, p, twoF a b, a + b - st, 0, n, rfl, P5, l2, ok, c0, c18, Int.le_refl 0, c0, by omega, by omega, fun H7 s7 => ?_⟩
    rw [ea]
    refine ⟨_, rfl, _, rfl, _, _, rfl, rfl, _, rfl, _, _, rfl, rfl, _, _, rfl, rfl, .inl ⟨by omega, by omega⟩, _, rfl, _, _, rfl, rfl, .inr ⟨by omega, by omega⟩, _, _, rfl, rfl, rfl, _, rfl, ifF (by simp) ?_⟩
    refine ⟨_, rfl, _, rfl, _, rfl, p, twoF a b, a + b - st, 0, n, rfl, P5.same s7, l2, ok, c0, c18, Int.le_refl 0, c0, by omega, by omega, fun H8 s8 => ?_⟩
    rw [ea]
    refine ⟨_, rfl, _, rfl, _, _, rfl, rfl, rfl, _, rfl, ifF (by simp) ?_⟩
    have S8 := S5.trans (s7.trans s8)
    have P8 := P5.same (s7.trans s8)
    -- the numbers of chairs
    refine ⟨_, rfl, p, twoF a b, rfl, P8, l2, fun H9 s9 => ?_⟩
    rw [two_spare (by omega) (by omega)]
    refine ⟨_, rfl, _, rfl, _, _, rfl, rfl, rfl, _, rfl, ifF (by simp) ?_⟩
    refine ⟨_, rfl, p, twoF a b, rfl, P8.same s9, l2, ok18, fun Ha sa' => ?_⟩
    rw [two_need (by omega) (by omega)]
    refine ⟨_, rfl, _, rfl, _, _, rfl, rfl, _, rfl, ifF (by simp) ?_⟩
    have Sa := S8.trans (s9.trans sa')
    have Pa := P8.same (s9.trans sa')
    refine ⟨_, rfl, _, rfl, p, twoF a b, a + b - st, rfl, ⟨Pa, l2, ok, c0, by omega⟩, by omega, fun q3 Hb sb' eb => ⟨z2, fun t6 ht6 => ?_⟩⟩
    rw [two_spared (by omega) (by omega) (by rw [two_need (by omega) (by omega)]; split <;> omega) (by omega)] at eb
    refine do_neT (SqT.of ((same_upd ht6) _ _ eb)) (SqT.of upd_same) (plain_pair _ _) ⟨_, rfl, iteF ?_⟩
    have Sb := Sa.trans (sb'.trans (same_upd (o := .tup [.int 2, .int 1]) ht6))
    have Pb := Pa.same (sb'.trans (same_upd (o := .tup [.int 2, .int 1]) ht6))
    generalize upd Hb t6 (.tup [.int 2, .int 1]) = Hc at *
    -- evidence
    refine ⟨_, rfl, _, rfl, p, a + b - st, 0, twoF a b, rfl, Pb, c0, c18, ok, l2, Int.le_refl 0, c0, fun le Hd nd sd ed => ⟨z2, fun l3 hl3 => ?_⟩⟩
    have eev : evF (a + b - st) 0 (twoF a b) (twoF a b).length = [0, 1] := two_ev a1 b1 s1 sa sb
    rw [eev] at ed
    refine do_neL (ns := [0, 1]) (SqL.of ((same_upd hl3) _ _ ed)) (SqL.of upd_same) ⟨_, rfl, iteF ?_⟩
    have Sd := Sb.trans (sd.trans (same_upd (o := .lst [.int 0, .int 1]) hl3))
    have Pd := Pb.same (sd.trans (same_upd (o := .lst [.int 0, .int 1]) hl3))
    generalize upd Hd l3 (.lst [.int 0, .int 1]) = He at *
    obtain ⟨gd, ej⟩ := two_judge a1 b1 s1 sa sb
    refine ⟨_, rfl, _, rfl, z2, fun l4 hl4 => ⟨p, l4, a + b - st, 0, twoF a b, [0, 1], rfl, Pd.same (same_upd hl4), c0, c18, ok, l2, Int.le_refl 0, c0, upd_same, by show 2 ≤ 100; decide, gd, fun Hf sf => ?_⟩⟩
    rw [ej]
    refine ⟨_, rfl, _, rfl, _, _, rfl, rfl, rfl, _, rfl, ifF (by simp) ?_⟩
    have Sf := Sd.trans ((same_upd (o := .lst [.int 0, .int 1]) hl4).trans sf)
    have Pf := Pd.same ((same_upd (o := .lst [.int 0, .int 1]) hl4).trans sf)
    -- the best numbers
    refine ⟨_, rfl, p, twoF a b, 2, 1, 1, rfl, Pf, l2, ok18, by decide, by decide, by decide, by decide, by decide, by decide, fun r2 Hg sg h2 => ?_⟩
    rw [two_best2 a1 b1 h2]
    refine ⟨_, rfl, _, rfl, _, _, rfl, rfl, _, rfl, ifF (by simp) ?_⟩
    refine ⟨_, rfl, p, twoF a b, 1, 1, 1, rfl, Pf.same sg, l2, ok18, by decide, by decide, by decide, by decide, by decide, by decide, fun r3 Hh sh h3 => ?_⟩
    rw [two_best1 a1 b1 h3]
    refine ⟨_, rfl, _, rfl, _, _, rfl, rfl, rfl, _, rfl, ifF (by simp) ?_⟩
    have Sh := Sf.trans (sg.trans sh)
    have Ph := Pf.same (sg.trans sh)
    -- the first difference
    refine ⟨_, rfl, _, rfl, z2, fun u1 hu1 => ⟨_, rfl, _, _, rfl, rfl, z2, fun u2 hu2 => fun q dq hq hdq hne2 => ?_⟩⟩
    have sI := (same_upd (o := .tup [.str "red", .int a]) hu1).trans (same_upd (o := .tup [.str "blue", .int (b - 1)]) hu2)
    have gI : Steps (upd (upd Hh u1 (.tup [.str "red", .int a])) u2 (.tup [.str "blue", .int (b - 1)])) [.ref u1, .ref u2] (twoF a (b - 1)) := .cons ⟨u1, rfl, (same_upd hu2) _ _ upd_same⟩ (.cons ⟨u2, rfl, upd_same⟩ .nil)
    refine ⟨q, dq, [.ref u1, .ref u2], twoF a (b - 1), rfl, upd_same, gI.same (mk_same hq hdq), lb, okb18, fun Hj tj b7 b8 b9 => ⟨rfl, ?_⟩⟩
    obtain ⟨sj, Pq⟩ := mk_plan hq hdq gI b7 b8 b9
    refine ⟨_, rfl, p, q, twoF a b, twoF a (b - 1), a + b - st, rfl, Ph.same (sI.trans sj), Pq, c0, c18, ok, okb, l2, lb, fun o Hk sk hfo => ?_⟩
    have eo := two_first a1 b1 s1 sa sb hfo
    subst eo
    refine ⟨rfl, ?_⟩
    rw [decide_eq_true (show goalV (some 0) = V.int 0 from rfl)]
    exact k _ (Sh.trans ((sI.trans sj).trans sk))
abbrev s__law_all_chairs : Stmt := top 62
abbrev n__law_all_chairs : List Str := ["_law_chairs", "_law_many", "_law_plan", "_law_k"]
theorem sc__law_all_chairs : FnScope n__law_all_chairs ["_law_chairs", "_law_many"] (defScope s__law_all_chairs) := ⟨rfl, rfl, rfl, by decide +kernel, rfl, by decide +kernel, by decide +kernel⟩
theorem ok__law_all_chairs {f fI fJ pA gA f_summary f_long_run f_simple_plan : Addr} {fd fdS : FuncData} (F : Fun K "_law_all_chairs" "_law_all_chairs" s__law_all_chairs f fd) (T : Txt K mg C TU pS gS mc) (G : Gs P w K mg base C gS fdS) (M : Mk K C fI) (GI : FnR P w K mg base CX0 3 fI (spInit C)) (MJ : Meth K C "joined" fJ) (GJ : FnR P w K mg base CX0 5 fJ (spJoined C)) (CA : ClX.CMet K C mc "alternating" pA gA) (GA : FnR P w K mg base CX0 5 gA (spAlt C)) (D_summary : Dn P w K mg base 4 "summary" f_summary (spSummary C)) (D_long_run : Dn P w K mg base 5 "long_run" f_long_run (spLong C)) (D_simple_plan : Dn P w K mg base 5 "simple_plan" f_simple_plan (spSimple K C)) : FnOk P w K mg base CX0 8 f fd ["_law_chairs", "_law_many"] spAll := by
  refine F.ok sc__law_all_chairs (fun vs H Q E h => ?_) (fun cdv A outer s H vs Q E hr h => ?_)
  · obtain ⟨c, m, rfl, _⟩ := h
    rfl
  · obtain ⟨c, m, rfl, c1, c9, m1, m5, k⟩ := h
    refine ⟨_, pss_cons (ps_set (i := 2) sc__law_all_chairs.nd rfl (.inl rfl) (pe_makeR0 M GI (hr.mono (by decide)) rfl T.gP pass0))
      (pss_cons (ps_for PassesOwn.never rfl (pi_range1 rfl T.b.range (pa_cons (pv 1) pa_nil)) (pg_name (i := 3) sc__law_all_chairs.nd rfl (.inl rfl))
        (pss_one (ps_set (i := 2) sc__law_all_chairs.nd rfl (.inl rfl) (pe_methR (pv 2) T.cl MJ GJ (hr.mono (by decide)) pass0 (pa_cons (ClX.pe_cmeth (pe_glob (v := .ref C) rfl T.gP rfl) T.rd CA GA (hr.mono (by decide)) pass0 (pa_cons (pv 0) (pa_cons (pv 0) pa_nil))) pa_nil)))))
      (pss_cons (ps_if (pt_cmpR (op_neD hr.units) (pe_callR D_summary.ok (hr.mono (by decide)) rfl D_summary.at_ D_summary.kp pass0 (pa_cons (pv 2) (pa_cons (pv 0) pa_nil))) (pe_tup (pa_cons (pv 0) (pa_cons (pv 0) (pa_cons (pe_op op_mul (pe_op op_sub (pe_op op_mul pe_int (pv 1)) pe_int) (pv 0)) (pa_cons pe_int (pa_cons pe_bl pa_nil)))))) (nomark _))
        (pss_one (ps_ret pe_bl)) pss_nil)
      (pss_cons (ps_if (PW.pt (pw_or (pt_cmpR op_ne (pe_callB call_len (by rfl) T.b.len PySem.boot_len (pa_cons (pe_prop (pe_callR D_simple_plan.ok (hr.mono (by decide)) rfl D_simple_plan.at_ D_simple_plan.kp pass0 (pa_cons (pv 2) (pa_cons (pv 0) pa_nil))) T.cl T.pr G.ok (hr.mono (by decide)) G.b .nil pass0 rfl) pa_nil)) (pe_op op_mul pe_int (pv 1)) (nomark _)) (pw_or1 (pt_cmpR (op_neD hr.units) (pe_callR D_long_run.ok (hr.mono (by decide)) rfl D_long_run.at_ D_long_run.kp pass0 (pa_cons (pv 2) (pa_cons (pv 0) pa_nil))) (pe_tup (pa_cons (pe_op op_mul (pe_op op_mul pe_int (pv 1)) (pv 0)) (pa_cons pe_int pa_nil))) (nomark _)))))
        (pss_one (ps_ret pe_bl)) pss_nil)
      (pss_one (ps_ret (pe_cmpR op_eq (pe_callB call_len (by rfl) T.b.len PySem.boot_len (pa_cons (pe_prop (pe_callR D_simple_plan.ok (hr.mono (by decide)) rfl D_simple_plan.at_ D_simple_plan.kp pass0 (pa_cons (pe_methR (pv 2) T.cl MJ GJ (hr.mono (by decide)) pass0 (pa_cons (StX.pe_makeR M GI (hr.mono (by decide)) rfl T.gP pass0 (pa_cons (pe_tup (pa_cons pe_str (pa_cons pe_int pa_nil))) (pa_cons (pe_tup (pa_cons pe_str pa_nil)) (pa_cons (pe_tup (pa_cons pe_str pa_nil)) pa_nil)))) pa_nil)) (pa_cons (pv 0) pa_nil))) T.cl T.pr G.ok (hr.mono (by decide)) G.b .nil pass0 rfl) pa_nil)) (pe_op op_add (pe_op op_mul pe_int (pv 1)) pe_int) (nomark _))))))), ?_⟩
    have c0 : 0 ≤ c := by omega
    have c18 : c ≤ 1000000000000000000 := by omega
    obtain ⟨kn, hkn⟩ : ∃ kn : Nat, m = (kn : Int) + 1 := ⟨(m - 1).toNat, by omega⟩
    have em : m.toNat = kn + 1 := by omega
    have k5 : kn ≤ 4 := by omega
    have lp : ∀ i, i ≤ kn + 1 → (allF c i).length ≤ 10 := fun i hi => by
      rw [all_len]
      omega
    have okA : ∀ i, ∀ s ∈ allF c i, s.ok c := fun i => all_ok c0 i
    refine fun x dx hx hdx hne => ⟨x, dx, [], [], rfl, upd_same, .nil, by decide, by simp, fun H1 tp b1 b2 b3 => ⟨rfl, ?_⟩⟩
    obtain ⟨s1, P1⟩ := mk_plan hx hdx .nil b1 b2 b3
    refine ⟨_, rfl, m, rfl, by omega, by omega, for_range (lo := 0) (n := m.toNat) (fun i σ H' => ∃ (p : Addr) (y : Option V), σ = [some (.int c), some (.int m), some (.ref p), y] ∧ Same H H' ∧ PlanAt C H' p (allF c i)) ⟨x, none, rfl, s1, P1⟩ ?_ ?_⟩
    · rintro i σ H2 hi ⟨p, y, rfl, s2, P2⟩
      obtain ⟨dp, tp2, ws, e1, e2, e3⟩ := id P2
      refine ⟨_, rfl, p, dp, _, rfl, e1, lk_no (by decide +kernel), rfl, _, rfl, _, rfl, c, c, rfl, ⟨c0, c18⟩, ⟨c0, c18⟩, fun q H3 s3 hq => ?_⟩
      have l2 := lp i (by omega)
      have hq2 : PlanAt C H3 q (twoF c c) := hq
      refine ⟨p, allF c i, q, twoF c c, rfl, P2.same s3, hq2, ?_, fun s hs => ((okA (i + 1)) s hs).mono c18, fun r H4 s4 hr2 => ⟨r, _, rfl, (s2.trans s3).trans s4, hr2⟩⟩
      rw [List.length_append]
      show (allF c i).length + 2 ≤ 60
      omega
    rintro σ H2 ⟨p, y, rfl, s2, P2⟩
    rw [em] at P2
    have ok := okA (kn + 1)
    have l2 := lp (kn + 1) (Nat.le_refl _)
    have le := all_end c1 kn
    have ls := all_simple c1 kn (by omega)
    have lr := all_set c1 kn
    have fit : SmFit c (smEnd (smSteps c (allF c (kn + 1)))) := smFit_of c0 ok (by omega)
    -- the summary
    refine ⟨_, rfl, _, rfl, p, allF c (kn + 1), c, rfl, P2, c0, c18, ok, by omega, fun q1 H3 s3 e3 => ?_⟩
    refine ⟨_, rfl, _, rfl, _, rfl, _, _, rfl, rfl, .inl ⟨by decide, by decide⟩, _, _, rfl, rfl, _, rfl, _, _, rfl, rfl, .inl ⟨by omega, by omega⟩, by show 5 ≤ sizeLine; decide, fun t3 ht3 => ?_⟩
    rw [le] at e3
    have em2 : (2 * (kn : Int) + 1) * c = (2 * m - 1) * c := by
      rw [show 2 * m - 1 = 2 * (kn : Int) + 1 by omega]
    rw [em2] at e3
    refine do_neT (xs := smV ⟨c, c, (2 * m - 1) * c, some 0, false⟩) (SqT.of ((same_upd ht3) _ _ e3)) (SqT.of upd_same) (plain_sm _) ⟨_, rfl, iteF ?_⟩
    have S3 := s2.trans (s3.trans (same_upd (o := .tup [.int c, .int c, .int ((2 * m - 1) * c), .int 0, .bl false]) ht3))
    have P3 := P2.same (s3.trans (same_upd (o := .tup [.int c, .int c, .int ((2 * m - 1) * c), .int 0, .bl false]) ht3))
    generalize upd H3 t3 (.tup [.int c, .int c, .int ((2 * m - 1) * c), .int 0, .bl false]) = H4 at *
    -- the simple plan's length
    refine ⟨_, rfl, _, rfl, p, allF c (kn + 1), c, rfl, P3, c18, ok, by omega, fit, fun z H5 s5 ⟨dx5, tp5, ws5, e5, f5, g5⟩ => ?_⟩
    have lw : (ws5.length : Int) = 2 * m := by
      rw [g5.length, ls]
      omega
    refine ⟨z, dx5, _, rfl, e5, z, dx5, _, _, rfl, e5, lk_self, _, _, rfl, .inr ⟨_, SqT.of f5, rfl⟩, _, rfl, _, _, rfl, rfl, .inl ⟨by decide, by decide⟩, rfl, _, rfl, ifF (by rw [lw]; simp) ?_⟩
    have P5 := P3.same s5
    refine ⟨_, rfl, _, rfl, p, allF c (kn + 1), c, rfl, ⟨P5, by omega, ok, c0, by omega⟩, c18, fun q2 H6 s6 e6 => ⟨_, rfl, _, _, rfl, rfl, .inl ⟨by decide, by decide⟩, _, rfl, _, _, rfl, rfl, .inl ⟨by omega, by omega⟩, by show 2 ≤ sizeLine; decide, fun t6 ht6 => ?_⟩⟩
    have em3 : ((kn + 1 : Nat) : Int) = m := by omega
    rw [lr, em3] at e6
    refine do_neT (SqT.of ((same_upd ht6) _ _ e6)) (SqT.of upd_same) (plain_pair _ _) ⟨_, rfl, iteF ?_⟩
    have S6 := S3.trans (s5.trans (s6.trans (same_upd (o := .tup [.int (2 * m * c), .int 1]) ht6)))
    have P6 := P5.same (s6.trans (same_upd (o := .tup [.int (2 * m * c), .int 1]) ht6))
    generalize upd H6 t6 (.tup [.int (2 * m * c), .int 1]) = H7 at *
    -- one more meeting, two turns
    obtain ⟨dp, tp2, ws, e1, e2, e3'⟩ := id P6
    refine ⟨_, rfl, p, dp, _, rfl, e1, lk_no (by decide +kernel), by show 2 ≤ sizeLine; decide, fun t7 ht7 => ⟨by show 1 ≤ sizeLine; decide, fun t8 ht8 => ⟨by show 1 ≤ sizeLine; decide, fun t9 ht9 => fun q dq hq hdq hne2 => ?_⟩⟩⟩
    have a7 := same_upd (o := .tup [.str "red", .int 1]) ht7
    have a8 := same_upd (o := .tup [.str "turn"]) ht8
    have a9 := same_upd (o := .tup [.str "turn"]) ht9
    have g9 : Steps (upd (upd (upd H7 t7 (.tup [.str "red", .int 1])) t8 (.tup [.str "turn"])) t9 (.tup [.str "turn"])) [.ref t7, .ref t8, .ref t9] [.meet true 1, .turn, .turn] :=
      .cons ⟨t7, rfl, a9 _ _ (a8 _ _ upd_same)⟩ (.cons ⟨t8, rfl, a9 _ _ upd_same⟩ (.cons ⟨t9, rfl, upd_same⟩ .nil))
    have ok3 : ∀ s ∈ [Stp.meet true 1, .turn, .turn], s.ok c := fun s hs => by
      have h : s = .meet true 1 ∨ s = .turn := by simpa using hs
      rcases h with rfl | rfl
      · exact ⟨by decide, c1⟩
      · trivial
    refine ⟨q, dq, [.ref t7, .ref t8, .ref t9], [.meet true 1, .turn, .turn], rfl, upd_same, g9.same (mk_same hq hdq), by show 3 ≤ 60; decide, fun s hs => (ok3 s hs).mono c18, fun H8 tz b4 b5 b6 => ⟨rfl, ?_⟩⟩
    obtain ⟨s8, Pq⟩ := mk_plan hq hdq g9 b4 b5 b6
    have s78 := ((a7.trans a8).trans a9).trans s8
    have okM : ∀ s ∈ allF c (kn + 1) ++ [Stp.meet true 1, .turn, .turn], s.ok c := fun s hs => (List.mem_append.mp hs).elim (ok s) (ok3 s)
    have lM : (allF c (kn + 1) ++ [Stp.meet true 1, .turn, .turn]).length ≤ 13 := by
      rw [List.length_append]
      show (allF c (kn + 1)).length + 3 ≤ 13
      omega
    refine ⟨p, allF c (kn + 1), q, [.meet true 1, .turn, .turn], rfl, P6.same s78, Pq, by omega, fun s hs => (okM s hs).mono c18, fun r H9 s9 Pr => ?_⟩
    have fitM : SmFit c (smEnd (smSteps c (allF c (kn + 1) ++ [Stp.meet true 1, .turn, .turn]))) := smFit_of c0 okM (by omega)
    refine ⟨_, rfl, r, _, c, rfl, Pr, c18, okM, by omega, fitM, fun zz Ha sa ⟨dxa, tpa, wsa, ea, fa, ga⟩ => ?_⟩
    have lw2 : (wsa.length : Int) = 2 * m + 1 := by
      have ms := more_simple c1 kn (by omega)
      have gl : wsa.length = (simpleF c (moreF c (kn + 1))).length := ga.length
      rw [gl, ms]
      omega
    refine ⟨zz, dxa, _, rfl, ea, zz, dxa, _, _, rfl, ea, lk_self, _, _, rfl, .inr ⟨_, SqT.of fa, rfl⟩, _, rfl, _, _, rfl, rfl, .inl ⟨by decide, by decide⟩, _, _, rfl, rfl, rfl, ?_⟩
    rw [decide_eq_true (show V.int (wsa.length : Int) = V.int (2 * m + 1) by rw [lw2])]
    exact k _ (((S6.trans s78).trans s9).trans sa)
abbrev s__law_turning : Stmt := top 63
abbrev n__law_turning : List Str := ["_law_a", "_law_short", "_law_plan", "_law_chairs"]
theorem sc__law_turning : FnScope n__law_turning ["_law_a", "_law_short"] (defScope s__law_turning) := ⟨rfl, rfl, rfl, by decide +kernel, rfl, by decide +kernel, by decide +kernel⟩
theorem ok__law_turning {f fI f_summary f_sparing_chairs f_long_run f_total_carried f_red_chairs : Addr} {fd : FuncData} (F : Fun K "_law_turning" "_law_turning" s__law_turning f fd) (T : Txt K mg C TU pS gS mc) (M : Mk K C fI) (GI : FnR P w K mg base CX0 3 fI (spInit C)) (D_summary : Dn P w K mg base 4 "summary" f_summary (spSummary C)) (D_sparing_chairs : Dn P w K mg base 3 "sparing_chairs" f_sparing_chairs (spSparing C)) (D_long_run : Dn P w K mg base 5 "long_run" f_long_run (spLong C)) (D_total_carried : Dn P w K mg base 6 "total_carried" f_total_carried (spTotal C)) (D_red_chairs : Dn P w K mg base 6 "red_chairs" f_red_chairs (spRedC C)) : FnOk P w K mg base CX0 8 f fd ["_law_a", "_law_short"] spTur := by
  refine F.ok sc__law_turning (fun vs H Q E h => ?_) (fun cdv A outer s H vs Q E hr h => ?_)
  · obtain ⟨a, s, rfl, _⟩ := h
    rfl
  · obtain ⟨a, st, rfl, s1, sa, a9, k⟩ := h
    refine ⟨_, pss_cons (ps_par (i := 2) (j := 3) rfl sc__law_turning.nd rfl rfl (by decide) rfl rfl (pa_cons (StX.pe_makeR M GI (hr.mono (by decide)) rfl T.gP pass0 (pa_cons (pe_tup (pa_cons pe_str (pa_cons (pv 0) pa_nil))) (pa_cons (pe_tup (pa_cons pe_str pa_nil)) pa_nil))) (pa_cons (pe_op op_sub (pe_op op_mul pe_int (pv 0)) (pv 1)) pa_nil)) (by rfl))
      (pss_cons (ps_if (pt_cmpR (op_neD hr.units) (pe_callR D_summary.ok (hr.mono (by decide)) rfl D_summary.at_ D_summary.kp pass0 (pa_cons (pv 2) (pa_cons (pv 3) pa_nil))) (pe_tup (pa_cons (pv 0) (pa_cons (pv 3) (pa_cons pe_int (pa_cons (pe_ifExp (pt_cmpR op_lt (pv 0) (pv 3) (nomark _)) pe_non (pv 0)) (pa_cons pe_bl pa_nil)))))) (nomark _))
        (pss_one (ps_ret pe_bl)) pss_nil)
      (pss_cons (ps_if (PW.pt (pw_or (pt_cmpR (op_neD hr.units) (pe_callR D_long_run.ok (hr.mono (by decide)) rfl D_long_run.at_ D_long_run.kp pass0 (pa_cons (pv 2) (pa_cons (pv 3) pa_nil))) (pe_tup (pa_cons (pv 1) (pa_cons pe_int pa_nil))) (nomark _)) (pw_or1 (pt_cmpR op_ne (pe_callR D_sparing_chairs.ok (hr.mono (by decide)) rfl D_sparing_chairs.at_ D_sparing_chairs.kp pass0 (pa_cons (pv 2) pa_nil)) (pe_op op_mul pe_int (pv 0)) (nomark _)))))
        (pss_one (ps_ret pe_bl)) pss_nil)
      (pss_one (ps_ret (pe_and (pe_cmpR op_eq (pe_callR D_red_chairs.ok (hr.mono (by decide)) rfl D_red_chairs.at_ D_red_chairs.kp pass0 (pa_cons (pv 2) (pa_cons (pv 3) (pa_cons (pv 0) (pa_cons pe_int pa_nil))))) (pe_op op_sub (pv 3) (pv 0)) (nomark _)) (pe_one (pe_cmpR op_eq (pe_callR D_total_carried.ok (hr.mono (by decide)) rfl D_total_carried.at_ D_total_carried.kp pass0 (pa_cons (pv 2) (pa_cons (pv 3) (pa_cons (pv 0) (pa_cons pe_int pa_nil))))) (pv 1) (nomark _)))))))), ?_⟩
    have c0 : 0 ≤ 2 * a - st := by omega
    have c18 : 2 * a - st ≤ 1000000000000000000 := by omega
    have ok : ∀ s ∈ turF a, s.ok (2 * a - st) := tur_ok (by omega) (by omega)
    have ok18 : ∀ s ∈ turF a, s.ok 1000000000000000000 := tur_ok (by omega) (by omega)
    have l2 : (turF a).length ≤ 60 := by show 2 ≤ 60; decide
    refine ⟨_, rfl, by show 2 ≤ sizeLine; decide, fun t1 ht1 => ⟨by show 1 ≤ sizeLine; decide, fun t2 ht2 => fun p dp hp hdp hne => ?_⟩⟩
    have s01 := (same_upd (o := .tup [.str "red", .int a]) ht1).trans (same_upd (o := .tup [.str "turn"]) ht2)
    have g1 : Steps (upd (upd H t1 (.tup [.str "red", .int a])) t2 (.tup [.str "turn"])) [.ref t1, .ref t2] (turF a) := .cons ⟨t1, rfl, (same_upd ht2) _ _ upd_same⟩ (.cons ⟨t2, rfl, upd_same⟩ .nil)
    refine ⟨p, dp, [.ref t1, .ref t2], turF a, rfl, upd_same, g1.same (mk_same hp hdp), l2, ok18, fun H2 tz b4 b5 b6 => ⟨rfl, ?_⟩⟩
    obtain ⟨s12, P2⟩ := mk_plan hp hdp g1 b4 b5 b6
    have S2 := s01.trans s12
    refine ⟨_, rfl, _, _, rfl, rfl, .inl ⟨by decide, by decide⟩, _, rfl, _, _, rfl, rfl, _, _, rfl, ?_⟩
    clear s12 s01 b4 b5 b6 g1
    refine ⟨_, rfl, _, rfl, p, turF a, 2 * a - st, rfl, P2, c0, c18, ok, l2, fun q1 H3 s3 e3 => ⟨_, rfl, _, rfl, _, rfl, _, rfl, _, _, rfl, rfl, _, rfl, ?_⟩⟩
    rw [tur_end (by omega) (by omega)] at e3
    by_cases h : a < 2 * a - st
    · rw [if_pos h] at e3
      refine ifT (decide_eq_true h) ⟨by show 5 ≤ sizeLine; decide, fun t3 ht3 => do_neT (xs := smV ⟨a, 2 * a - st, 0, none, true⟩) (SqT.of ((same_upd ht3) _ _ e3)) (SqT.of upd_same) (plain_sm _) ⟨_, rfl, iteF ?_⟩⟩
      have S3 := S2.trans (s3.trans (same_upd (o := .tup [.int a, .int (2 * a - st), .int 0, .non, .bl true]) ht3))
      have P3 := P2.same (s3.trans (same_upd (o := .tup [.int a, .int (2 * a - st), .int 0, .non, .bl true]) ht3))
      generalize upd H3 t3 (.tup [.int a, .int (2 * a - st), .int 0, .non, .bl true]) = H4 at *
      refine ⟨_, rfl, _, rfl, p, turF a, 2 * a - st, rfl, ⟨P3, l2, ok, c0, by omega⟩, c18, fun q2 H5 s5 e5 => ⟨_, rfl, by show 2 ≤ sizeLine; decide, fun t5 ht5 => ?_⟩⟩
      rw [tur_set s1 sa] at e5
      refine do_neT (SqT.of ((same_upd ht5) _ _ e5)) (SqT.of upd_same) (plain_pair _ _) ⟨_, rfl, iteF ?_⟩
      have S5 := S3.trans (s5.trans (same_upd (o := .tup [.int st, .int 1]) ht5))
      have P5 := P3.same (s5.trans (same_upd (o := .tup [.int st, .int 1]) ht5))
      generalize upd H5 t5 (.tup [.int st, .int 1]) = H6 at *
      refine ⟨_, rfl, p, turF a, rfl, P5, l2, fun H9 s9 => ?_⟩
      rw [tur_spare (by omega)]
      refine ⟨_, rfl, _, _, rfl, rfl, .inl ⟨by decide, by decide⟩, rfl, _, rfl, ifF (by simp) ?_⟩
      refine ⟨_, rfl, _, rfl, _, rfl, p, turF a, 2 * a - st, a, 1, rfl, P5.same s9, l2, ok, c0, c18, by omega, by omega, by decide, by decide, fun H7 s7 => ?_⟩
      have e7 : (afterF (2 * a - st) (turF a) a (1 : Int).toNat).1 = 2 * a - st - a := by
        show (afterF (2 * a - st) (turF a) a 1).1 = _
        rw [tur_one s1 sa]
      rw [e7]
      refine ⟨_, rfl, _, rfl, _, _, rfl, rfl, rfl, _, rfl, ?_⟩
      refine ifT (by simp) ?_
      refine ⟨_, rfl, _, rfl, _, rfl, p, turF a, 2 * a - st, a, 2, rfl, P5.same (s9.trans s7), l2, ok, c0, c18, by omega, by omega, by decide, by decide, fun H8 s8 => ?_⟩
      have e8 : (afterF (2 * a - st) (turF a) a (2 : Int).toNat).2 = st := tur_two s1 sa
      rw [e8]
      refine ⟨_, rfl, rfl, ?_⟩
      rw [decide_eq_true (show V.int st = V.int st from rfl)]
      exact k _ (S5.trans ((s9.trans s7).trans s8))
    · rw [if_neg h] at e3
      refine ifF (decide_eq_false h) ⟨_, rfl, by show 5 ≤ sizeLine; decide, fun t3 ht3 => do_neT (xs := smV ⟨a, 2 * a - st, 0, some a, true⟩) (SqT.of ((same_upd ht3) _ _ e3)) (SqT.of upd_same) (plain_sm _) ⟨_, rfl, iteF ?_⟩⟩
      have S3 := S2.trans (s3.trans (same_upd (o := .tup [.int a, .int (2 * a - st), .int 0, .int a, .bl true]) ht3))
      have P3 := P2.same (s3.trans (same_upd (o := .tup [.int a, .int (2 * a - st), .int 0, .int a, .bl true]) ht3))
      generalize upd H3 t3 (.tup [.int a, .int (2 * a - st), .int 0, .int a, .bl true]) = H4 at *
      refine ⟨_, rfl, _, rfl, p, turF a, 2 * a - st, rfl, ⟨P3, l2, ok, c0, by omega⟩, c18, fun q2 H5 s5 e5 => ⟨_, rfl, by show 2 ≤ sizeLine; decide, fun t5 ht5 => ?_⟩⟩
      rw [tur_set s1 sa] at e5
      refine do_neT (SqT.of ((same_upd ht5) _ _ e5)) (SqT.of upd_same) (plain_pair _ _) ⟨_, rfl, iteF ?_⟩
      have S5 := S3.trans (s5.trans (same_upd (o := .tup [.int st, .int 1]) ht5))
      have P5 := P3.same (s5.trans (same_upd (o := .tup [.int st, .int 1]) ht5))
      generalize upd H5 t5 (.tup [.int st, .int 1]) = H6 at *
      refine ⟨_, rfl, p, turF a, rfl, P5, l2, fun H9 s9 => ?_⟩
      rw [tur_spare (by omega)]
      refine ⟨_, rfl, _, _, rfl, rfl, .inl ⟨by decide, by decide⟩, rfl, _, rfl, ifF (by simp) ?_⟩
      refine ⟨_, rfl, _, rfl, _, rfl, p, turF a, 2 * a - st, a, 1, rfl, P5.same s9, l2, ok, c0, c18, by omega, by omega, by decide, by decide, fun H7 s7 => ?_⟩
      have e7 : (afterF (2 * a - st) (turF a) a (1 : Int).toNat).1 = 2 * a - st - a := by
        show (afterF (2 * a - st) (turF a) a 1).1 = _
        rw [tur_one s1 sa]
      rw [e7]
      refine ⟨_, rfl, _, rfl, _, _, rfl, rfl, rfl, _, rfl, ?_⟩
      refine ifT (by simp) ?_
      refine ⟨_, rfl, _, rfl, _, rfl, p, turF a, 2 * a - st, a, 2, rfl, P5.same (s9.trans s7), l2, ok, c0, c18, by omega, by omega, by decide, by decide, fun H8 s8 => ?_⟩
      have e8 : (afterF (2 * a - st) (turF a) a (2 : Int).toNat).2 = st := tur_two s1 sa
      rw [e8]
      refine ⟨_, rfl, rfl, ?_⟩
      rw [decide_eq_true (show V.int st = V.int st from rfl)]
      exact k _ (S5.trans ((s9.trans s7).trans s8))
abbrev s_law : Stmt := top 64
abbrev n_law : List Str := ["_law_script", "_law_state", "_law_turn", "_law_high", "_law_a", "_law_b", "_law_short"]
theorem sc_law : FnScope n_law ["_law_script"] (defScope s_law) := ⟨rfl, rfl, rfl, by decide +kernel, rfl, by decide +kernel, by decide +kernel⟩
theorem ok_law {f f__law_start f__law_drawn f__law_two_meetings f__law_turning f__law_all_chairs : Addr} {fd : FuncData} (F : Fun K "law" "law" s_law f fd) (T : Txt K mg C TU pS gS mc) (D__law_start : Dn P w K mg base 1 "_law_start" f__law_start (spStart K)) (D__law_drawn : Dn P w K mg base 1 "_law_drawn" f__law_drawn (spDrawn K)) (D__law_two_meetings : Dn P w K mg base 8 "_law_two_meetings" f__law_two_meetings spTwo) (D__law_turning : Dn P w K mg base 8 "_law_turning" f__law_turning spTur) (D__law_all_chairs : Dn P w K mg base 8 "_law_all_chairs" f__law_all_chairs spAll) : FnOk P w K mg base CX0 9 f fd ["_law_script"] (spLaw K) := by
  refine F.ok sc_law (fun vs H Q E h => ?_) (fun cdv A outer s H vs Q E hr h => ?_)
  · obtain ⟨a, ns, rfl, _⟩ := h
    rfl
  · obtain ⟨a, ns, rfl, hF, hlen, k⟩ := h
    refine ⟨_, pss_cons (ps_set (i := 1) sc_law.nd rfl (.inl rfl) (pe_callR D__law_start.ok (hr.mono (by decide)) rfl D__law_start.at_ D__law_start.kp pass0 (pa_cons (pv 0) pa_nil)))
      (pss_cons (ps_for PassesOwn.never rfl (pi_range1 rfl T.b.range (pa_cons pe_int pa_nil)) (pg_name (i := 2) sc_law.nd rfl (.inl rfl))
        (pss_cons (ps_set (i := 3) sc_law.nd rfl (.inl rfl) (pe_ix ix_list (pe_lst (pa_cons pe_int (pa_cons (pe_op op_pow pe_int pe_int) pa_nil))) (pe_callR D__law_drawn.ok (hr.mono (by decide)) rfl D__law_drawn.at_ D__law_drawn.kp pass0 (pa_cons (pv 1) (pa_cons pe_int pa_nil))) (fun _ _ => rfl)))
        (pss_cons (ps_par (i := 4) (j := 5) rfl sc_law.nd rfl rfl (by decide) rfl rfl (pa_cons (pe_op op_add pe_int (pe_callR D__law_drawn.ok (hr.mono (by decide)) rfl D__law_drawn.at_ D__law_drawn.kp pass0 (pa_cons (pv 1) (pa_cons (pv 3) pa_nil)))) (pa_cons (pe_op op_add pe_int (pe_callR D__law_drawn.ok (hr.mono (by decide)) rfl D__law_drawn.at_ D__law_drawn.kp pass0 (pa_cons (pv 1) (pa_cons (pv 3) pa_nil)))) pa_nil)) (by rfl))
        (pss_cons (ps_set (i := 6) sc_law.nd rfl (.inl rfl) (pe_op op_add pe_int (pe_callR D__law_drawn.ok (hr.mono (by decide)) rfl D__law_drawn.at_ D__law_drawn.kp pass0 (pa_cons (pv 1) (pa_cons (pe_callB (call_min2 rfl) (by rfl) T.b.min (by decide +kernel) (pa_cons (pv 4) (pa_cons (pv 5) pa_nil))) pa_nil)))))
        (pss_cons (ps_if (pt_not (pt_val (pe_callR D__law_two_meetings.ok (hr.mono (by decide)) rfl D__law_two_meetings.at_ D__law_two_meetings.kp pass0 (pa_cons (pv 4) (pa_cons (pv 5) (pa_cons (pv 6) (pa_cons (pe_op op_add pe_int (pe_callR D__law_drawn.ok (hr.mono (by decide)) rfl D__law_drawn.at_ D__law_drawn.kp pass0 (pa_cons (pv 1) (pa_cons (pv 3) pa_nil)))) pa_nil)))))))
          (pss_one (ps_ret pe_bl)) pss_nil)
        (pss_one (ps_if (PW.pt (pw_or (pt_not (pt_val (pe_callR D__law_all_chairs.ok (hr.mono (by decide)) rfl D__law_all_chairs.at_ D__law_all_chairs.kp pass0 (pa_cons (pv 4) (pa_cons (pe_op op_add pe_int (pe_callR D__law_drawn.ok (hr.mono (by decide)) rfl D__law_drawn.at_ D__law_drawn.kp pass0 (pa_cons (pv 1) (pa_cons pe_int pa_nil)))) pa_nil))))) (pw_or1 (pt_not (pt_val (pe_callR D__law_turning.ok (hr.mono (by decide)) rfl D__law_turning.at_ D__law_turning.kp pass0 (pa_cons (pv 4) (pa_cons (pe_op op_add pe_int (pe_callR D__law_drawn.ok (hr.mono (by decide)) rfl D__law_drawn.at_ D__law_drawn.kp pass0 (pa_cons (pv 1) (pa_cons (pv 4) pa_nil)))) pa_nil))))))))
          (pss_one (ps_ret pe_bl)) pss_nil)))))))
      (pss_one (ps_ret pe_bl))), ?_⟩
    have ten17 : (10 : Int) ^ (17 : Int).toNat = 100000000000000000 := by decide
    refine ⟨_, rfl, a, ns, rfl, hF, hlen, fun st H1 _ s1 D1 => ?_⟩
    refine ⟨4, rfl, by decide, by decide, for_range (lo := 0) (n := 4) (fun i σ H' => ∃ (x2 x3 x4 x5 x6 : Option V), σ = [some (.ref a), some (.ref st), x2, x3, x4, x5, x6] ∧ DrawAt K H' st) ⟨none, none, none, none, none, rfl, D1⟩ ?_ ?_⟩
    · rintro i σ H2 hi ⟨x2, x3, x4, x5, x6, rfl, D2⟩
      refine ⟨_, _, rfl, rfl, ⟨by decide, by decide, by decide⟩, by show 2 ≤ sizeLine; decide, fun l2 hl2 => ⟨_, rfl, st, 2, rfl, D2.same (same_upd hl2), by decide, by decide, fun rc H3 q0 q1 D3 b3 => ?_⟩⟩
      have ns2 : l2 ≠ st := let ⟨_, e⟩ := D2.lst; (ne_of_none e hl2).symm
      obtain ⟨hi', hc, h1, h2⟩ : ∃ c, atI [V.int 9, V.int (10 ^ (17 : Int).toNat)] rc = some (V.int c) ∧ 1 ≤ c ∧ c ≤ 100000000000000000 := by
        have : rc = ((0 : Nat) : Int) ∨ rc = ((1 : Nat) : Int) := by omega
        rcases this with z | z
        · exact ⟨9, at_of z rfl, by decide, by decide⟩
        · exact ⟨_, at_of z rfl, by rw [ten17]; decide, by rw [ten17]; decide⟩
      refine ⟨l2, _, _, _, rfl, rfl, SqL.of (b3 _ _ ns2 upd_same), hc, ?_⟩
      refine ⟨_, rfl, _, rfl, st, hi', rfl, D3, by omega, by omega, fun r1 H4 u0 u1 D4 b4 => ⟨_, _, rfl, rfl, _, rfl, _, rfl, st, hi', rfl, D4, by omega, by omega, fun r2 H5 v0 v1 D5 b5 => ⟨_, _, rfl, rfl, _, _, rfl, ?_⟩⟩⟩
      obtain ⟨x, hx⟩ : ∃ x, x = 1 + r1 := ⟨_, rfl⟩
      obtain ⟨y, hy⟩ : ∃ y, y = 1 + r2 := ⟨_, rfl⟩
      dsimp only
      rw [← hx, ← hy]
      have mi : ∀ z, z = (if y < x then y else x) → 1 ≤ z ∧ z ≤ x ∧ z ≤ y := fun z hz => by
        subst hz
        split <;> omega
      obtain ⟨m0, m1, m2⟩ := mi _ rfl
      refine ⟨_, rfl, _, rfl, _, rfl, _, _, rfl, st, _, rfl, D5, by omega, by omega, fun r3 H6 w0 w1 D6 b6 => ⟨_, _, rfl, rfl, ?_⟩⟩
      obtain ⟨s, hs⟩ : ∃ s, s = 1 + r3 := ⟨_, rfl⟩
      dsimp only
      rw [← hs]
      refine ⟨_, rfl, _, rfl, _, rfl, _, rfl, _, rfl, st, hi', rfl, D6, by omega, by omega, fun r4 H7 y0 y1 D7 b7 => ⟨_, _, rfl, rfl, x, y, s, 1 + r4, rfl, by omega, by omega, by omega, by omega, by omega, by omega, by omega, by omega, by omega, fun H8 s8 => ⟨true, rfl, ifF rfl ?_⟩⟩⟩
      have D8 := D7.same s8
      refine ⟨_, rfl, _, rfl, st, 5, rfl, D8, by decide, by decide, fun r5 H9 y2 y3 D9 b9 => ⟨_, _, rfl, rfl, x, 1 + r5, rfl, by omega, by omega, by omega, by omega, fun Ha sa => ⟨true, rfl, ifF rfl ?_⟩⟩⟩
      have Da := D9.same sa
      refine ⟨_, rfl, _, rfl, _, rfl, st, x, rfl, Da, by omega, by omega, fun r6 Hb y4 y5 Db bb => ⟨_, _, rfl, rfl, x, 1 + r6, rfl, by omega, by omega, by omega, fun Hc sc => ⟨true, rfl, ifF rfl ?_⟩⟩⟩
      exact ⟨_, _, _, _, _, rfl, Db.same sc⟩
    · rintro σ H2 ⟨x2, x3, x4, x5, x6, rfl, D2⟩
      exact k H2
end
end Cc


namespace Cc
open PySem PySem.Spec PyProof.Rows L2

theorem dn_mk {P : Program} {w : World} {K : PySem.W.Frag} {mg : Str → Option Value} {base : Heap} {k : Nat} {x : Str} {f : Addr} {fd : FuncData} {ps : List Str} {sp : Sp} (a : mg x = some (.ref f)) (kp : PySem.W.keepIn K (.ref f) = true) (F : FnOk P w K mg base CX0 k f fd ps sp) (b : Binds K fd ps []) :
    Dn P w K mg base k x f sp := ⟨a, kp, (F.raw b .nil).imp fun vs H Q E h => by rw [List.append_nil]; exact h⟩
theorem all_mk {P : Program} {w : World} {K : PySem.W.Frag} {h : Heap} {mg : Str → Option Value} {fa C TU pS f_is_whole f_is_number f_check_number f_check_house f_is_step f__law_start f__law_drawn f_after_step f_after_steps f_few_rounds f_after_rounds f_check_start f_checked_rounds f_total_carried f_red_chairs f_allowed_range f_narrowed f_nearest f_effect_of f_summary f_telling_starts f_first_difference f_length_of f_alternately f_longest_points f_turning_points f_steps_into_range f_steps_through f_simple_plan f_first_rooms f_settled_carrying f_long_run f_spared_carrying f_saving f_fewest_chairs f_sparing_chairs f_best_chairs f_find_evidence f_check_evidence f_judge_evidence f__law_two_meetings f__law_all_chairs f__law_turning f_law fminit fmjoined fmalt pA2 fmst : Addr} (X : K.In h) (G : h.Ns mainGlobals mg) (hfa : mg "law" = some (.ref fa))
    {od_is_whole an_is_whole od_is_number an_is_number od_check_number an_check_number od_check_house an_check_house od_is_step an_is_step od__law_start an__law_start od__law_drawn an__law_drawn od_after_step an_after_step od_after_steps an_after_steps od_few_rounds an_few_rounds od_after_rounds an_after_rounds od_check_start an_check_start od_checked_rounds an_checked_rounds od_total_carried an_total_carried od_red_chairs an_red_chairs od_allowed_range an_allowed_range od_narrowed an_narrowed od_nearest an_nearest od_effect_of an_effect_of od_summary an_summary od_telling_starts an_telling_starts od_first_difference an_first_difference od_length_of an_length_of od_alternately an_alternately od_longest_points an_longest_points od_turning_points an_turning_points od_steps_into_range an_steps_into_range od_steps_through an_steps_through od_simple_plan an_simple_plan od_first_rooms an_first_rooms od_settled_carrying an_settled_carrying od_long_run an_long_run od_spared_carrying an_spared_carrying od_saving an_saving od_fewest_chairs an_fewest_chairs od_sparing_chairs an_sparing_chairs od_best_chairs an_best_chairs od_find_evidence an_find_evidence od_check_evidence an_check_evidence od_judge_evidence an_judge_evidence od__law_two_meetings an__law_two_meetings od__law_all_chairs an__law_all_chairs od__law_turning an__law_turning od_law an_law odminit anminit odmjoined anmjoined odmalt anmalt odmst anmst dT : Option Addr} {sl_is_whole sl_is_number sl_check_number sl_check_house sl_is_step sl__law_start sl__law_drawn sl_after_step sl_after_steps sl_few_rounds sl_after_rounds sl_check_start sl_checked_rounds sl_total_carried sl_red_chairs sl_allowed_range sl_narrowed sl_nearest sl_effect_of sl_summary sl_telling_starts sl_first_difference sl_length_of sl_alternately sl_longest_points sl_turning_points sl_steps_into_range sl_steps_through sl_simple_plan sl_first_rooms sl_settled_carrying sl_long_run sl_spared_carrying sl_saving sl_fewest_chairs sl_sparing_chairs sl_best_chairs sl_find_evidence sl_check_evidence sl_judge_evidence sl__law_two_meetings sl__law_all_chairs sl__law_turning sl_law slminit slmjoined slmalt slmst slT : Array (Option Value)} {oc_is_whole kV_is_whole dc_is_whole pm_is_whole cd_is_whole ct_is_whole oc_is_number kV_is_number dc_is_number pm_is_number cd_is_number ct_is_number oc_check_number kV_check_number dc_check_number pm_check_number cd_check_number ct_check_number oc_check_house kV_check_house dc_check_house pm_check_house cd_check_house ct_check_house oc_is_step kV_is_step dc_is_step pm_is_step cd_is_step ct_is_step oc__law_start kV__law_start dc__law_start pm__law_start cd__law_start ct__law_start oc__law_drawn kV__law_drawn dc__law_drawn pm__law_drawn cd__law_drawn ct__law_drawn oc_after_step kV_after_step dc_after_step pm_after_step cd_after_step ct_after_step oc_after_steps kV_after_steps dc_after_steps pm_after_steps cd_after_steps ct_after_steps oc_few_rounds kV_few_rounds dc_few_rounds pm_few_rounds cd_few_rounds ct_few_rounds oc_after_rounds kV_after_rounds dc_after_rounds pm_after_rounds cd_after_rounds ct_after_rounds oc_check_start kV_check_start dc_check_start pm_check_start cd_check_start ct_check_start oc_checked_rounds kV_checked_rounds dc_checked_rounds pm_checked_rounds cd_checked_rounds ct_checked_rounds oc_total_carried kV_total_carried dc_total_carried pm_total_carried cd_total_carried ct_total_carried oc_red_chairs kV_red_chairs dc_red_chairs pm_red_chairs cd_red_chairs ct_red_chairs oc_allowed_range kV_allowed_range dc_allowed_range pm_allowed_range cd_allowed_range ct_allowed_range oc_narrowed kV_narrowed dc_narrowed pm_narrowed cd_narrowed ct_narrowed oc_nearest kV_nearest dc_nearest pm_nearest cd_nearest ct_nearest oc_effect_of kV_effect_of dc_effect_of pm_effect_of cd_effect_of ct_effect_of oc_summary kV_summary dc_summary pm_summary cd_summary ct_summary oc_telling_starts kV_telling_starts dc_telling_starts pm_telling_starts cd_telling_starts ct_telling_starts oc_first_difference kV_first_difference dc_first_difference pm_first_difference cd_first_difference ct_first_difference oc_length_of kV_length_of dc_length_of pm_length_of cd_length_of ct_length_of oc_alternately kV_alternately dc_alternately pm_alternately cd_alternately ct_alternately oc_longest_points kV_longest_points dc_longest_points pm_longest_points cd_longest_points ct_longest_points oc_turning_points kV_turning_points dc_turning_points pm_turning_points cd_turning_points ct_turning_points oc_steps_into_range kV_steps_into_range dc_steps_into_range pm_steps_into_range cd_steps_into_range ct_steps_into_range oc_steps_through kV_steps_through dc_steps_through pm_steps_through cd_steps_through ct_steps_through oc_simple_plan kV_simple_plan dc_simple_plan pm_simple_plan cd_simple_plan ct_simple_plan oc_first_rooms kV_first_rooms dc_first_rooms pm_first_rooms cd_first_rooms ct_first_rooms oc_settled_carrying kV_settled_carrying dc_settled_carrying pm_settled_carrying cd_settled_carrying ct_settled_carrying oc_long_run kV_long_run dc_long_run pm_long_run cd_long_run ct_long_run oc_spared_carrying kV_spared_carrying dc_spared_carrying pm_spared_carrying cd_spared_carrying ct_spared_carrying oc_saving kV_saving dc_saving pm_saving cd_saving ct_saving oc_fewest_chairs kV_fewest_chairs dc_fewest_chairs pm_fewest_chairs cd_fewest_chairs ct_fewest_chairs oc_sparing_chairs kV_sparing_chairs dc_sparing_chairs pm_sparing_chairs cd_sparing_chairs ct_sparing_chairs oc_best_chairs kV_best_chairs dc_best_chairs pm_best_chairs cd_best_chairs ct_best_chairs oc_find_evidence kV_find_evidence dc_find_evidence pm_find_evidence cd_find_evidence ct_find_evidence oc_check_evidence kV_check_evidence dc_check_evidence pm_check_evidence cd_check_evidence ct_check_evidence oc_judge_evidence kV_judge_evidence dc_judge_evidence pm_judge_evidence cd_judge_evidence ct_judge_evidence oc__law_two_meetings kV__law_two_meetings dc__law_two_meetings pm__law_two_meetings cd__law_two_meetings ct__law_two_meetings oc__law_all_chairs kV__law_all_chairs dc__law_all_chairs pm__law_all_chairs cd__law_all_chairs ct__law_all_chairs oc__law_turning kV__law_turning dc__law_turning pm__law_turning cd__law_turning ct__law_turning oc_law kV_law dc_law pm_law cd_law ct_law ocminit kVminit dcminit pmminit cdminit ctminit ocmjoined kVmjoined dcmjoined pmmjoined cdmjoined ctmjoined ocmalt kVmalt dcmalt pmmalt cdmalt ctmalt ocmst kVmst dcmst pmmst cdmst ctmst : Value} {rs rs2 : List Value} {t1 t2 t3 t4 t_MAX_ROUNDS t_MAX_PRICE t_MAX_PRICED_ROUNDS : Tok} {nT : Nat}
    (a_is_whole : PySem.W.nsIn K mainGlobals "is_whole" = some (some (.ref f_is_whole)))
    (l_is_whole : K.lookup f_is_whole = some ⟨oc_is_whole, od_is_whole, .func (PySem.W.fnOf "is_whole" "is_whole" (defArgs sIsWhole) (defBody sIsWhole) (defScope sIsWhole) .none kV_is_whole dc_is_whole pm_is_whole an_is_whole cd_is_whole ct_is_whole), sl_is_whole⟩)
    (c_is_whole : PySem.W.codeIn K cd_is_whole "is_whole" = true)
    (k_is_whole : PySem.W.keepIn K (.ref f_is_whole) = true)
    (a_is_number : PySem.W.nsIn K mainGlobals "is_number" = some (some (.ref f_is_number)))
    (l_is_number : K.lookup f_is_number = some ⟨oc_is_number, od_is_number, .func (PySem.W.fnOf "is_number" "is_number" (defArgs sIsNum) (defBody sIsNum) (defScope sIsNum) .none kV_is_number dc_is_number pm_is_number an_is_number cd_is_number ct_is_number), sl_is_number⟩)
    (c_is_number : PySem.W.codeIn K cd_is_number "is_number" = true)
    (k_is_number : PySem.W.keepIn K (.ref f_is_number) = true)
    (a_check_number : PySem.W.nsIn K mainGlobals "check_number" = some (some (.ref f_check_number)))
    (l_check_number : K.lookup f_check_number = some ⟨oc_check_number, od_check_number, .func (PySem.W.fnOf "check_number" "check_number" (defArgs sChkNum) (defBody sChkNum) (defScope sChkNum) .none kV_check_number dc_check_number pm_check_number an_check_number cd_check_number ct_check_number), sl_check_number⟩)
    (c_check_number : PySem.W.codeIn K cd_check_number "check_number" = true)
    (k_check_number : PySem.W.keepIn K (.ref f_check_number) = true)
    (a_check_house : PySem.W.nsIn K mainGlobals "check_house" = some (some (.ref f_check_house)))
    (l_check_house : K.lookup f_check_house = some ⟨oc_check_house, od_check_house, .func (PySem.W.fnOf "check_house" "check_house" (defArgs sChkHouse) (defBody sChkHouse) (defScope sChkHouse) .none kV_check_house dc_check_house pm_check_house an_check_house cd_check_house ct_check_house), sl_check_house⟩)
    (c_check_house : PySem.W.codeIn K cd_check_house "check_house" = true)
    (k_check_house : PySem.W.keepIn K (.ref f_check_house) = true)
    (a_is_step : PySem.W.nsIn K mainGlobals "is_step" = some (some (.ref f_is_step)))
    (l_is_step : K.lookup f_is_step = some ⟨oc_is_step, od_is_step, .func (PySem.W.fnOf "is_step" "is_step" (defArgs sIsStep) (defBody sIsStep) (defScope sIsStep) .none kV_is_step dc_is_step pm_is_step an_is_step cd_is_step ct_is_step), sl_is_step⟩)
    (c_is_step : PySem.W.codeIn K cd_is_step "is_step" = true)
    (k_is_step : PySem.W.keepIn K (.ref f_is_step) = true)
    (a__law_start : PySem.W.nsIn K mainGlobals "_law_start" = some (some (.ref f__law_start)))
    (l__law_start : K.lookup f__law_start = some ⟨oc__law_start, od__law_start, .func (PySem.W.fnOf "_law_start" "_law_start" (defArgs sStart) (defBody sStart) (defScope sStart) .none kV__law_start dc__law_start pm__law_start an__law_start cd__law_start ct__law_start), sl__law_start⟩)
    (c__law_start : PySem.W.codeIn K cd__law_start "_law_start" = true)
    (k__law_start : PySem.W.keepIn K (.ref f__law_start) = true)
    (a__law_drawn : PySem.W.nsIn K mainGlobals "_law_drawn" = some (some (.ref f__law_drawn)))
    (l__law_drawn : K.lookup f__law_drawn = some ⟨oc__law_drawn, od__law_drawn, .func (PySem.W.fnOf "_law_drawn" "_law_drawn" (defArgs sDrawn) (defBody sDrawn) (defScope sDrawn) .none kV__law_drawn dc__law_drawn pm__law_drawn an__law_drawn cd__law_drawn ct__law_drawn), sl__law_drawn⟩)
    (c__law_drawn : PySem.W.codeIn K cd__law_drawn "_law_drawn" = true)
    (k__law_drawn : PySem.W.keepIn K (.ref f__law_drawn) = true)
    (a_after_step : PySem.W.nsIn K mainGlobals "after_step" = some (some (.ref f_after_step)))
    (l_after_step : K.lookup f_after_step = some ⟨oc_after_step, od_after_step, .func (PySem.W.fnOf "after_step" "after_step" (defArgs sAStep) (defBody sAStep) (defScope sAStep) .none kV_after_step dc_after_step pm_after_step an_after_step cd_after_step ct_after_step), sl_after_step⟩)
    (c_after_step : PySem.W.codeIn K cd_after_step "after_step" = true)
    (k_after_step : PySem.W.keepIn K (.ref f_after_step) = true)
    (a_after_steps : PySem.W.nsIn K mainGlobals "after_steps" = some (some (.ref f_after_steps)))
    (l_after_steps : K.lookup f_after_steps = some ⟨oc_after_steps, od_after_steps, .func (PySem.W.fnOf "after_steps" "after_steps" (defArgs sASteps) (defBody sASteps) (defScope sASteps) .none kV_after_steps dc_after_steps pm_after_steps an_after_steps cd_after_steps ct_after_steps), sl_after_steps⟩)
    (c_after_steps : PySem.W.codeIn K cd_after_steps "after_steps" = true)
    (k_after_steps : PySem.W.keepIn K (.ref f_after_steps) = true)
    (a_few_rounds : PySem.W.nsIn K mainGlobals "few_rounds" = some (some (.ref f_few_rounds)))
    (l_few_rounds : K.lookup f_few_rounds = some ⟨oc_few_rounds, od_few_rounds, .func (PySem.W.fnOf "few_rounds" "few_rounds" (defArgs s_few_rounds) (defBody s_few_rounds) (defScope s_few_rounds) .none kV_few_rounds dc_few_rounds pm_few_rounds an_few_rounds cd_few_rounds ct_few_rounds), sl_few_rounds⟩)
    (c_few_rounds : PySem.W.codeIn K cd_few_rounds "few_rounds" = true)
    (k_few_rounds : PySem.W.keepIn K (.ref f_few_rounds) = true)
    (a_after_rounds : PySem.W.nsIn K mainGlobals "after_rounds" = some (some (.ref f_after_rounds)))
    (l_after_rounds : K.lookup f_after_rounds = some ⟨oc_after_rounds, od_after_rounds, .func (PySem.W.fnOf "after_rounds" "after_rounds" (defArgs s_after_rounds) (defBody s_after_rounds) (defScope s_after_rounds) .none kV_after_rounds dc_after_rounds pm_after_rounds an_after_rounds cd_after_rounds ct_after_rounds), sl_after_rounds⟩)
    (c_after_rounds : PySem.W.codeIn K cd_after_rounds "after_rounds" = true)
    (k_after_rounds : PySem.W.keepIn K (.ref f_after_rounds) = true)
    (a_check_start : PySem.W.nsIn K mainGlobals "check_start" = some (some (.ref f_check_start)))
    (l_check_start : K.lookup f_check_start = some ⟨oc_check_start, od_check_start, .func (PySem.W.fnOf "check_start" "check_start" (defArgs s_check_start) (defBody s_check_start) (defScope s_check_start) .none kV_check_start dc_check_start pm_check_start an_check_start cd_check_start ct_check_start), sl_check_start⟩)
    (c_check_start : PySem.W.codeIn K cd_check_start "check_start" = true)
    (k_check_start : PySem.W.keepIn K (.ref f_check_start) = true)
    (a_checked_rounds : PySem.W.nsIn K mainGlobals "checked_rounds" = some (some (.ref f_checked_rounds)))
    (l_checked_rounds : K.lookup f_checked_rounds = some ⟨oc_checked_rounds, od_checked_rounds, .func (PySem.W.fnOf "checked_rounds" "checked_rounds" (defArgs s_checked_rounds) (defBody s_checked_rounds) (defScope s_checked_rounds) .none kV_checked_rounds dc_checked_rounds pm_checked_rounds an_checked_rounds cd_checked_rounds ct_checked_rounds), sl_checked_rounds⟩)
    (c_checked_rounds : PySem.W.codeIn K cd_checked_rounds "checked_rounds" = true)
    (k_checked_rounds : PySem.W.keepIn K (.ref f_checked_rounds) = true)
    (a_total_carried : PySem.W.nsIn K mainGlobals "total_carried" = some (some (.ref f_total_carried)))
    (l_total_carried : K.lookup f_total_carried = some ⟨oc_total_carried, od_total_carried, .func (PySem.W.fnOf "total_carried" "total_carried" (defArgs s_total_carried) (defBody s_total_carried) (defScope s_total_carried) .none kV_total_carried dc_total_carried pm_total_carried an_total_carried cd_total_carried ct_total_carried), sl_total_carried⟩)
    (c_total_carried : PySem.W.codeIn K cd_total_carried "total_carried" = true)
    (k_total_carried : PySem.W.keepIn K (.ref f_total_carried) = true)
    (a_red_chairs : PySem.W.nsIn K mainGlobals "red_chairs" = some (some (.ref f_red_chairs)))
    (l_red_chairs : K.lookup f_red_chairs = some ⟨oc_red_chairs, od_red_chairs, .func (PySem.W.fnOf "red_chairs" "red_chairs" (defArgs s_red_chairs) (defBody s_red_chairs) (defScope s_red_chairs) .none kV_red_chairs dc_red_chairs pm_red_chairs an_red_chairs cd_red_chairs ct_red_chairs), sl_red_chairs⟩)
    (c_red_chairs : PySem.W.codeIn K cd_red_chairs "red_chairs" = true)
    (k_red_chairs : PySem.W.keepIn K (.ref f_red_chairs) = true)
    (a_allowed_range : PySem.W.nsIn K mainGlobals "allowed_range" = some (some (.ref f_allowed_range)))
    (l_allowed_range : K.lookup f_allowed_range = some ⟨oc_allowed_range, od_allowed_range, .func (PySem.W.fnOf "allowed_range" "allowed_range" (defArgs sAllow) (defBody sAllow) (defScope sAllow) .none kV_allowed_range dc_allowed_range pm_allowed_range an_allowed_range cd_allowed_range ct_allowed_range), sl_allowed_range⟩)
    (c_allowed_range : PySem.W.codeIn K cd_allowed_range "allowed_range" = true)
    (k_allowed_range : PySem.W.keepIn K (.ref f_allowed_range) = true)
    (a_narrowed : PySem.W.nsIn K mainGlobals "narrowed" = some (some (.ref f_narrowed)))
    (l_narrowed : K.lookup f_narrowed = some ⟨oc_narrowed, od_narrowed, .func (PySem.W.fnOf "narrowed" "narrowed" (defArgs sNarrow) (defBody sNarrow) (defScope sNarrow) .none kV_narrowed dc_narrowed pm_narrowed an_narrowed cd_narrowed ct_narrowed), sl_narrowed⟩)
    (c_narrowed : PySem.W.codeIn K cd_narrowed "narrowed" = true)
    (k_narrowed : PySem.W.keepIn K (.ref f_narrowed) = true)
    (a_nearest : PySem.W.nsIn K mainGlobals "nearest" = some (some (.ref f_nearest)))
    (l_nearest : K.lookup f_nearest = some ⟨oc_nearest, od_nearest, .func (PySem.W.fnOf "nearest" "nearest" (defArgs sNear) (defBody sNear) (defScope sNear) .none kV_nearest dc_nearest pm_nearest an_nearest cd_nearest ct_nearest), sl_nearest⟩)
    (c_nearest : PySem.W.codeIn K cd_nearest "nearest" = true)
    (k_nearest : PySem.W.keepIn K (.ref f_nearest) = true)
    (a_effect_of : PySem.W.nsIn K mainGlobals "effect_of" = some (some (.ref f_effect_of)))
    (l_effect_of : K.lookup f_effect_of = some ⟨oc_effect_of, od_effect_of, .func (PySem.W.fnOf "effect_of" "effect_of" (defArgs sEffect) (defBody sEffect) (defScope sEffect) .none kV_effect_of dc_effect_of pm_effect_of an_effect_of cd_effect_of ct_effect_of), sl_effect_of⟩)
    (c_effect_of : PySem.W.codeIn K cd_effect_of "effect_of" = true)
    (k_effect_of : PySem.W.keepIn K (.ref f_effect_of) = true)
    (a_summary : PySem.W.nsIn K mainGlobals "summary" = some (some (.ref f_summary)))
    (l_summary : K.lookup f_summary = some ⟨oc_summary, od_summary, .func (PySem.W.fnOf "summary" "summary" (defArgs s_summary) (defBody s_summary) (defScope s_summary) .none kV_summary dc_summary pm_summary an_summary cd_summary ct_summary), sl_summary⟩)
    (c_summary : PySem.W.codeIn K cd_summary "summary" = true)
    (k_summary : PySem.W.keepIn K (.ref f_summary) = true)
    (a_telling_starts : PySem.W.nsIn K mainGlobals "telling_starts" = some (some (.ref f_telling_starts)))
    (l_telling_starts : K.lookup f_telling_starts = some ⟨oc_telling_starts, od_telling_starts, .func (PySem.W.fnOf "telling_starts" "telling_starts" (defArgs sTell) (defBody sTell) (defScope sTell) .none kV_telling_starts dc_telling_starts pm_telling_starts an_telling_starts cd_telling_starts ct_telling_starts), sl_telling_starts⟩)
    (c_telling_starts : PySem.W.codeIn K cd_telling_starts "telling_starts" = true)
    (k_telling_starts : PySem.W.keepIn K (.ref f_telling_starts) = true)
    (a_first_difference : PySem.W.nsIn K mainGlobals "first_difference" = some (some (.ref f_first_difference)))
    (l_first_difference : K.lookup f_first_difference = some ⟨oc_first_difference, od_first_difference, .func (PySem.W.fnOf "first_difference" "first_difference" (defArgs sFirst) (defBody sFirst) (defScope sFirst) .none kV_first_difference dc_first_difference pm_first_difference an_first_difference cd_first_difference ct_first_difference), sl_first_difference⟩)
    (c_first_difference : PySem.W.codeIn K cd_first_difference "first_difference" = true)
    (k_first_difference : PySem.W.keepIn K (.ref f_first_difference) = true)
    (a_length_of : PySem.W.nsIn K mainGlobals "length_of" = some (some (.ref f_length_of)))
    (l_length_of : K.lookup f_length_of = some ⟨oc_length_of, od_length_of, .func (PySem.W.fnOf "length_of" "length_of" (defArgs s_length_of) (defBody s_length_of) (defScope s_length_of) .none kV_length_of dc_length_of pm_length_of an_length_of cd_length_of ct_length_of), sl_length_of⟩)
    (c_length_of : PySem.W.codeIn K cd_length_of "length_of" = true)
    (k_length_of : PySem.W.keepIn K (.ref f_length_of) = true)
    (a_alternately : PySem.W.nsIn K mainGlobals "alternately" = some (some (.ref f_alternately)))
    (l_alternately : K.lookup f_alternately = some ⟨oc_alternately, od_alternately, .func (PySem.W.fnOf "alternately" "alternately" (defArgs s_alternately) (defBody s_alternately) (defScope s_alternately) .none kV_alternately dc_alternately pm_alternately an_alternately cd_alternately ct_alternately), sl_alternately⟩)
    (c_alternately : PySem.W.codeIn K cd_alternately "alternately" = true)
    (k_alternately : PySem.W.keepIn K (.ref f_alternately) = true)
    (a_longest_points : PySem.W.nsIn K mainGlobals "longest_points" = some (some (.ref f_longest_points)))
    (l_longest_points : K.lookup f_longest_points = some ⟨oc_longest_points, od_longest_points, .func (PySem.W.fnOf "longest_points" "longest_points" (defArgs s_longest_points) (defBody s_longest_points) (defScope s_longest_points) .none kV_longest_points dc_longest_points pm_longest_points an_longest_points cd_longest_points ct_longest_points), sl_longest_points⟩)
    (c_longest_points : PySem.W.codeIn K cd_longest_points "longest_points" = true)
    (k_longest_points : PySem.W.keepIn K (.ref f_longest_points) = true)
    (a_turning_points : PySem.W.nsIn K mainGlobals "turning_points" = some (some (.ref f_turning_points)))
    (l_turning_points : K.lookup f_turning_points = some ⟨oc_turning_points, od_turning_points, .func (PySem.W.fnOf "turning_points" "turning_points" (defArgs s_turning_points) (defBody s_turning_points) (defScope s_turning_points) .none kV_turning_points dc_turning_points pm_turning_points an_turning_points cd_turning_points ct_turning_points), sl_turning_points⟩)
    (c_turning_points : PySem.W.codeIn K cd_turning_points "turning_points" = true)
    (k_turning_points : PySem.W.keepIn K (.ref f_turning_points) = true)
    (a_steps_into_range : PySem.W.nsIn K mainGlobals "steps_into_range" = some (some (.ref f_steps_into_range)))
    (l_steps_into_range : K.lookup f_steps_into_range = some ⟨oc_steps_into_range, od_steps_into_range, .func (PySem.W.fnOf "steps_into_range" "steps_into_range" (defArgs s_steps_into_range) (defBody s_steps_into_range) (defScope s_steps_into_range) .none kV_steps_into_range dc_steps_into_range pm_steps_into_range an_steps_into_range cd_steps_into_range ct_steps_into_range), sl_steps_into_range⟩)
    (c_steps_into_range : PySem.W.codeIn K cd_steps_into_range "steps_into_range" = true)
    (k_steps_into_range : PySem.W.keepIn K (.ref f_steps_into_range) = true)
    (a_steps_through : PySem.W.nsIn K mainGlobals "steps_through" = some (some (.ref f_steps_through)))
    (l_steps_through : K.lookup f_steps_through = some ⟨oc_steps_through, od_steps_through, .func (PySem.W.fnOf "steps_through" "steps_through" (defArgs s_steps_through) (defBody s_steps_through) (defScope s_steps_through) .none kV_steps_through dc_steps_through pm_steps_through an_steps_through cd_steps_through ct_steps_through), sl_steps_through⟩)
    (c_steps_through : PySem.W.codeIn K cd_steps_through "steps_through" = true)
    (k_steps_through : PySem.W.keepIn K (.ref f_steps_through) = true)
    (a_simple_plan : PySem.W.nsIn K mainGlobals "simple_plan" = some (some (.ref f_simple_plan)))
    (l_simple_plan : K.lookup f_simple_plan = some ⟨oc_simple_plan, od_simple_plan, .func (PySem.W.fnOf "simple_plan" "simple_plan" (defArgs s_simple_plan) (defBody s_simple_plan) (defScope s_simple_plan) .none kV_simple_plan dc_simple_plan pm_simple_plan an_simple_plan cd_simple_plan ct_simple_plan), sl_simple_plan⟩)
    (c_simple_plan : PySem.W.codeIn K cd_simple_plan "simple_plan" = true)
    (k_simple_plan : PySem.W.keepIn K (.ref f_simple_plan) = true)
    (a_first_rooms : PySem.W.nsIn K mainGlobals "first_rooms" = some (some (.ref f_first_rooms)))
    (l_first_rooms : K.lookup f_first_rooms = some ⟨oc_first_rooms, od_first_rooms, .func (PySem.W.fnOf "first_rooms" "first_rooms" (defArgs s_first_rooms) (defBody s_first_rooms) (defScope s_first_rooms) .none kV_first_rooms dc_first_rooms pm_first_rooms an_first_rooms cd_first_rooms ct_first_rooms), sl_first_rooms⟩)
    (c_first_rooms : PySem.W.codeIn K cd_first_rooms "first_rooms" = true)
    (k_first_rooms : PySem.W.keepIn K (.ref f_first_rooms) = true)
    (a_settled_carrying : PySem.W.nsIn K mainGlobals "settled_carrying" = some (some (.ref f_settled_carrying)))
    (l_settled_carrying : K.lookup f_settled_carrying = some ⟨oc_settled_carrying, od_settled_carrying, .func (PySem.W.fnOf "settled_carrying" "settled_carrying" (defArgs s_settled_carrying) (defBody s_settled_carrying) (defScope s_settled_carrying) .none kV_settled_carrying dc_settled_carrying pm_settled_carrying an_settled_carrying cd_settled_carrying ct_settled_carrying), sl_settled_carrying⟩)
    (c_settled_carrying : PySem.W.codeIn K cd_settled_carrying "settled_carrying" = true)
    (k_settled_carrying : PySem.W.keepIn K (.ref f_settled_carrying) = true)
    (a_long_run : PySem.W.nsIn K mainGlobals "long_run" = some (some (.ref f_long_run)))
    (l_long_run : K.lookup f_long_run = some ⟨oc_long_run, od_long_run, .func (PySem.W.fnOf "long_run" "long_run" (defArgs s_long_run) (defBody s_long_run) (defScope s_long_run) .none kV_long_run dc_long_run pm_long_run an_long_run cd_long_run ct_long_run), sl_long_run⟩)
    (c_long_run : PySem.W.codeIn K cd_long_run "long_run" = true)
    (k_long_run : PySem.W.keepIn K (.ref f_long_run) = true)
    (a_spared_carrying : PySem.W.nsIn K mainGlobals "spared_carrying" = some (some (.ref f_spared_carrying)))
    (l_spared_carrying : K.lookup f_spared_carrying = some ⟨oc_spared_carrying, od_spared_carrying, .func (PySem.W.fnOf "spared_carrying" "spared_carrying" (defArgs s_spared_carrying) (defBody s_spared_carrying) (defScope s_spared_carrying) .none kV_spared_carrying dc_spared_carrying pm_spared_carrying an_spared_carrying cd_spared_carrying ct_spared_carrying), sl_spared_carrying⟩)
    (c_spared_carrying : PySem.W.codeIn K cd_spared_carrying "spared_carrying" = true)
    (k_spared_carrying : PySem.W.keepIn K (.ref f_spared_carrying) = true)
    (a_saving : PySem.W.nsIn K mainGlobals "saving" = some (some (.ref f_saving)))
    (l_saving : K.lookup f_saving = some ⟨oc_saving, od_saving, .func (PySem.W.fnOf "saving" "saving" (defArgs s_saving) (defBody s_saving) (defScope s_saving) .none kV_saving dc_saving pm_saving an_saving cd_saving ct_saving), sl_saving⟩)
    (c_saving : PySem.W.codeIn K cd_saving "saving" = true)
    (k_saving : PySem.W.keepIn K (.ref f_saving) = true)
    (a_fewest_chairs : PySem.W.nsIn K mainGlobals "fewest_chairs" = some (some (.ref f_fewest_chairs)))
    (l_fewest_chairs : K.lookup f_fewest_chairs = some ⟨oc_fewest_chairs, od_fewest_chairs, .func (PySem.W.fnOf "fewest_chairs" "fewest_chairs" (defArgs s_fewest_chairs) (defBody s_fewest_chairs) (defScope s_fewest_chairs) .none kV_fewest_chairs dc_fewest_chairs pm_fewest_chairs an_fewest_chairs cd_fewest_chairs ct_fewest_chairs), sl_fewest_chairs⟩)
    (c_fewest_chairs : PySem.W.codeIn K cd_fewest_chairs "fewest_chairs" = true)
    (k_fewest_chairs : PySem.W.keepIn K (.ref f_fewest_chairs) = true)
    (a_sparing_chairs : PySem.W.nsIn K mainGlobals "sparing_chairs" = some (some (.ref f_sparing_chairs)))
    (l_sparing_chairs : K.lookup f_sparing_chairs = some ⟨oc_sparing_chairs, od_sparing_chairs, .func (PySem.W.fnOf "sparing_chairs" "sparing_chairs" (defArgs s_sparing_chairs) (defBody s_sparing_chairs) (defScope s_sparing_chairs) .none kV_sparing_chairs dc_sparing_chairs pm_sparing_chairs an_sparing_chairs cd_sparing_chairs ct_sparing_chairs), sl_sparing_chairs⟩)
    (c_sparing_chairs : PySem.W.codeIn K cd_sparing_chairs "sparing_chairs" = true)
    (k_sparing_chairs : PySem.W.keepIn K (.ref f_sparing_chairs) = true)
    (a_best_chairs : PySem.W.nsIn K mainGlobals "best_chairs" = some (some (.ref f_best_chairs)))
    (l_best_chairs : K.lookup f_best_chairs = some ⟨oc_best_chairs, od_best_chairs, .func (PySem.W.fnOf "best_chairs" "best_chairs" (defArgs s_best_chairs) (defBody s_best_chairs) (defScope s_best_chairs) .none kV_best_chairs dc_best_chairs pm_best_chairs an_best_chairs cd_best_chairs ct_best_chairs), sl_best_chairs⟩)
    (c_best_chairs : PySem.W.codeIn K cd_best_chairs "best_chairs" = true)
    (k_best_chairs : PySem.W.keepIn K (.ref f_best_chairs) = true)
    (a_find_evidence : PySem.W.nsIn K mainGlobals "find_evidence" = some (some (.ref f_find_evidence)))
    (l_find_evidence : K.lookup f_find_evidence = some ⟨oc_find_evidence, od_find_evidence, .func (PySem.W.fnOf "find_evidence" "find_evidence" (defArgs s_find_evidence) (defBody s_find_evidence) (defScope s_find_evidence) .none kV_find_evidence dc_find_evidence pm_find_evidence an_find_evidence cd_find_evidence ct_find_evidence), sl_find_evidence⟩)
    (c_find_evidence : PySem.W.codeIn K cd_find_evidence "find_evidence" = true)
    (k_find_evidence : PySem.W.keepIn K (.ref f_find_evidence) = true)
    (a_check_evidence : PySem.W.nsIn K mainGlobals "check_evidence" = some (some (.ref f_check_evidence)))
    (l_check_evidence : K.lookup f_check_evidence = some ⟨oc_check_evidence, od_check_evidence, .func (PySem.W.fnOf "check_evidence" "check_evidence" (defArgs s_check_evidence) (defBody s_check_evidence) (defScope s_check_evidence) .none kV_check_evidence dc_check_evidence pm_check_evidence an_check_evidence cd_check_evidence ct_check_evidence), sl_check_evidence⟩)
    (c_check_evidence : PySem.W.codeIn K cd_check_evidence "check_evidence" = true)
    (k_check_evidence : PySem.W.keepIn K (.ref f_check_evidence) = true)
    (a_judge_evidence : PySem.W.nsIn K mainGlobals "judge_evidence" = some (some (.ref f_judge_evidence)))
    (l_judge_evidence : K.lookup f_judge_evidence = some ⟨oc_judge_evidence, od_judge_evidence, .func (PySem.W.fnOf "judge_evidence" "judge_evidence" (defArgs s_judge_evidence) (defBody s_judge_evidence) (defScope s_judge_evidence) .none kV_judge_evidence dc_judge_evidence pm_judge_evidence an_judge_evidence cd_judge_evidence ct_judge_evidence), sl_judge_evidence⟩)
    (c_judge_evidence : PySem.W.codeIn K cd_judge_evidence "judge_evidence" = true)
    (k_judge_evidence : PySem.W.keepIn K (.ref f_judge_evidence) = true)
    (a__law_two_meetings : PySem.W.nsIn K mainGlobals "_law_two_meetings" = some (some (.ref f__law_two_meetings)))
    (l__law_two_meetings : K.lookup f__law_two_meetings = some ⟨oc__law_two_meetings, od__law_two_meetings, .func (PySem.W.fnOf "_law_two_meetings" "_law_two_meetings" (defArgs s__law_two_meetings) (defBody s__law_two_meetings) (defScope s__law_two_meetings) .none kV__law_two_meetings dc__law_two_meetings pm__law_two_meetings an__law_two_meetings cd__law_two_meetings ct__law_two_meetings), sl__law_two_meetings⟩)
    (c__law_two_meetings : PySem.W.codeIn K cd__law_two_meetings "_law_two_meetings" = true)
    (k__law_two_meetings : PySem.W.keepIn K (.ref f__law_two_meetings) = true)
    (a__law_all_chairs : PySem.W.nsIn K mainGlobals "_law_all_chairs" = some (some (.ref f__law_all_chairs)))
    (l__law_all_chairs : K.lookup f__law_all_chairs = some ⟨oc__law_all_chairs, od__law_all_chairs, .func (PySem.W.fnOf "_law_all_chairs" "_law_all_chairs" (defArgs s__law_all_chairs) (defBody s__law_all_chairs) (defScope s__law_all_chairs) .none kV__law_all_chairs dc__law_all_chairs pm__law_all_chairs an__law_all_chairs cd__law_all_chairs ct__law_all_chairs), sl__law_all_chairs⟩)
    (c__law_all_chairs : PySem.W.codeIn K cd__law_all_chairs "_law_all_chairs" = true)
    (k__law_all_chairs : PySem.W.keepIn K (.ref f__law_all_chairs) = true)
    (a__law_turning : PySem.W.nsIn K mainGlobals "_law_turning" = some (some (.ref f__law_turning)))
    (l__law_turning : K.lookup f__law_turning = some ⟨oc__law_turning, od__law_turning, .func (PySem.W.fnOf "_law_turning" "_law_turning" (defArgs s__law_turning) (defBody s__law_turning) (defScope s__law_turning) .none kV__law_turning dc__law_turning pm__law_turning an__law_turning cd__law_turning ct__law_turning), sl__law_turning⟩)
    (c__law_turning : PySem.W.codeIn K cd__law_turning "_law_turning" = true)
    (k__law_turning : PySem.W.keepIn K (.ref f__law_turning) = true)
    (a_law : PySem.W.nsIn K mainGlobals "law" = some (some (.ref f_law)))
    (l_law : K.lookup f_law = some ⟨oc_law, od_law, .func (PySem.W.fnOf "law" "law" (defArgs s_law) (defBody s_law) (defScope s_law) .none kV_law dc_law pm_law an_law cd_law ct_law), sl_law⟩)
    (c_law : PySem.W.codeIn K cd_law "law" = true)
    (k_law : PySem.W.keepIn K (.ref f_law) = true)
    (aC : PySem.W.nsIn K mainGlobals "Plan" = some (some (.ref C)))
    (aminit : PySem.W.findIn K (.ref C) "__init__" = some (some (.ref fminit)))
    (iminit : PySem.W.isFn K (.ref fminit) = true)
    (lminit : K.lookup fminit = some ⟨ocminit, odminit, .func (PySem.W.fnOf "__init__" "Plan.__init__" (defArgs sInit) (defBody sInit) (defScope sInit) .none kVminit dcminit pmminit anminit cdminit ctminit), slminit⟩)
    (cminit : PySem.W.codeIn K cdminit "Plan.__init__" = true)
    (kminit : PySem.W.keepIn K (.ref fminit) = true)
    (amjoined : PySem.W.findIn K (.ref C) "joined" = some (some (.ref fmjoined)))
    (imjoined : PySem.W.isFn K (.ref fmjoined) = true)
    (lmjoined : K.lookup fmjoined = some ⟨ocmjoined, odmjoined, .func (PySem.W.fnOf "joined" "Plan.joined" (defArgs sJoined) (defBody sJoined) (defScope sJoined) .none kVmjoined dcmjoined pmmjoined anmjoined cdmjoined ctmjoined), slmjoined⟩)
    (cmjoined : PySem.W.codeIn K cdmjoined "Plan.joined" = true)
    (kmjoined : PySem.W.keepIn K (.ref fmjoined) = true)
    (cA : PySem.W.findCls K (.ref C) (.type "type") "alternating" = some (.get (.builtin "classmethod.__get__") (.ref pA2) .none (.ref C)))
    (cB : PySem.W.recIn K pA2 "classmethod" = some (.ref fmalt :: rs2))
    (cC : PySem.W.fnIn K fmalt = true)
    (lmalt : K.lookup fmalt = some ⟨ocmalt, odmalt, .func (PySem.W.fnOf "alternating" "Plan.alternating" (defArgs sAlt) (defBody sAlt) (defScope sAlt) .none kVmalt dcmalt pmmalt anmalt cdmalt ctmalt), slmalt⟩)
    (cmalt : PySem.W.codeIn K cdmalt "Plan.alternating" = true)
    (kmalt : PySem.W.keepIn K (.ref fmalt) = true)
    (pA : PySem.W.findIn K (.ref C) "steps" = some (some (.ref pS)))
    (pG : PySem.W.specialIn K (.ref pS) "__get__" = some (some (.builtin "property.__get__")))
    (pT : PySem.W.takesIn K (.ref pS) = some true)
    (pR : PySem.W.recIn K pS "property" = some (.ref fmst :: rs))
    (lmst : K.lookup fmst = some ⟨ocmst, odmst, .func (PySem.W.fnOf "steps" "Plan.steps" (defArgs sSteps) (defBody sSteps) (defScope sSteps) .none kVmst dcmst pmmst anmst cdmst ctmst), slmst⟩)
    (cmst : PySem.W.codeIn K cdmst "Plan.steps" = true)
    (kmst : PySem.W.keepIn K (.ref fmst) = true)
    (pg : PySem.W.plainGet K C Str.empty = true)
    (hd : PySem.W.hasDictIn K C = true)
    (po : PySem.W.plainOver K C = true)
    (sa : PySem.W.findIn K (.ref C) "__setattr__" = some (some (.builtin "object.__setattr__")))
    (mk : PySem.W.makesIn K C = true)
    (kc : PySem.W.keepIn K (.ref C) = true)
    (nS : PySem.W.findIn K (.ref C) "step_tuple" = some none)
    (rd : PySem.W.readsIn K C (.type "type") = true)
    (ga : PySem.W.specialIn K (.ref C) "__getattribute__" = some (some (.builtin "type.__getattribute__")))
    (v1 : PySem.W.findCls K (.ref C) (.type "type") "MAX_STEPS" = some (.val (.int 60 t1)))
    (v2 : PySem.W.findCls K (.ref C) (.type "type") "MAX_CHAIRS" = some (.val (.int 1000000000000000000 t2)))
    (w2 : PySem.W.findIn K (.ref C) "MAX_CHAIRS" = some (some (.int 1000000000000000000 t3)))
    (w3 : PySem.W.specialIn K (.int 1000000000000000000 t3) "__get__" = some none)
    (aT : PySem.W.nsIn K mainGlobals "TURN" = some (some (.ref TU)))
    (lT : K.lookup TU = some ⟨.type "tuple", dT, .seq #[.str "turn" t4] nT, slT⟩)
    (q_MAX_ROUNDS : PySem.W.nsIn K mainGlobals "MAX_ROUNDS" = some (some (.int 1000000000000000000 t_MAX_ROUNDS)))
    (q_MAX_PRICE : PySem.W.nsIn K mainGlobals "MAX_PRICE" = some (some (.int 1000000000 t_MAX_PRICE)))
    (q_MAX_PRICED_ROUNDS : PySem.W.nsIn K mainGlobals "MAX_PRICED_ROUNDS" = some (some (.int 1000000000 t_MAX_PRICED_ROUNDS)))
    (z0 : PySem.W.nsIn K mainGlobals "isinstance" = some none)
    (z1 : PySem.W.nsIn K mainGlobals "int" = some none)
    (z2 : PySem.W.nsIn K mainGlobals "bool" = some none)
    (z3 : PySem.W.nsIn K mainGlobals "tuple" = some none)
    (z4 : PySem.W.nsIn K mainGlobals "list" = some none)
    (z5 : PySem.W.nsIn K mainGlobals "len" = some none)
    (z6 : PySem.W.nsIn K mainGlobals "max" = some none)
    (z7 : PySem.W.nsIn K mainGlobals "min" = some none)
    (z8 : PySem.W.nsIn K mainGlobals "abs" = some none)
    (z9 : PySem.W.nsIn K mainGlobals "enumerate" = some none)
    (z10 : PySem.W.nsIn K mainGlobals "range" = some none)
    (z11 : PySem.W.nsIn K mainGlobals "sum" = some none)
    (z12 : PySem.W.nsIn K mainGlobals "sorted" = some none)
    (z13 : PySem.W.nsIn K mainGlobals "divmod" = some none)
    (z14 : PySem.W.nsIn K mainGlobals "zip" = some none)
    (z15 : PySem.W.nsIn K mainGlobals "str" = some none)
    : ∃ fd : FuncData, (∀ (s : Shared) (v : Value), BindsTo s fd ⟨[v], []⟩ [("_law_script", v)]) ∧ ∀ base : Heap, K.In base → base.Ns mainGlobals mg → FnOk P w K mg base CX0 9 fa fd ["_law_script"] (spLaw K) := by
  have e := hfa.symm.trans (PySem.W.mg_of X G a_law)
  cases e
  have Bb : Bt mg := ⟨PySem.W.mg_none_of X G z0, PySem.W.mg_none_of X G z1, PySem.W.mg_none_of X G z2, PySem.W.mg_none_of X G z3, PySem.W.mg_none_of X G z4, PySem.W.mg_none_of X G z5, PySem.W.mg_none_of X G z6, PySem.W.mg_none_of X G z7, PySem.W.mg_none_of X G z8, PySem.W.mg_none_of X G z9, PySem.W.mg_none_of X G z10, PySem.W.mg_none_of X G z11, PySem.W.mg_none_of X G z12, PySem.W.mg_none_of X G z13, PySem.W.mg_none_of X G z14, PySem.W.mg_none_of X G z15⟩
  have F_is_whole := fun_mk (st := sIsWhole) l_is_whole c_is_whole k_is_whole
  have F_is_number := fun_mk (st := sIsNum) l_is_number c_is_number k_is_number
  have F_check_number := fun_mk (st := sChkNum) l_check_number c_check_number k_check_number
  have F_check_house := fun_mk (st := sChkHouse) l_check_house c_check_house k_check_house
  have F_is_step := fun_mk (st := sIsStep) l_is_step c_is_step k_is_step
  have F__law_start := fun_mk (st := sStart) l__law_start c__law_start k__law_start
  have F__law_drawn := fun_mk (st := sDrawn) l__law_drawn c__law_drawn k__law_drawn
  have F_after_step := fun_mk (st := sAStep) l_after_step c_after_step k_after_step
  have F_after_steps := fun_mk (st := sASteps) l_after_steps c_after_steps k_after_steps
  have F_few_rounds := fun_mk (st := s_few_rounds) l_few_rounds c_few_rounds k_few_rounds
  have F_after_rounds := fun_mk (st := s_after_rounds) l_after_rounds c_after_rounds k_after_rounds
  have F_check_start := fun_mk (st := s_check_start) l_check_start c_check_start k_check_start
  have F_checked_rounds := fun_mk (st := s_checked_rounds) l_checked_rounds c_checked_rounds k_checked_rounds
  have F_total_carried := fun_mk (st := s_total_carried) l_total_carried c_total_carried k_total_carried
  have F_red_chairs := fun_mk (st := s_red_chairs) l_red_chairs c_red_chairs k_red_chairs
  have F_allowed_range := fun_mk (st := sAllow) l_allowed_range c_allowed_range k_allowed_range
  have F_narrowed := fun_mk (st := sNarrow) l_narrowed c_narrowed k_narrowed
  have F_nearest := fun_mk (st := sNear) l_nearest c_nearest k_nearest
  have F_effect_of := fun_mk (st := sEffect) l_effect_of c_effect_of k_effect_of
  have F_summary := fun_mk (st := s_summary) l_summary c_summary k_summary
  have F_telling_starts := fun_mk (st := sTell) l_telling_starts c_telling_starts k_telling_starts
  have F_first_difference := fun_mk (st := sFirst) l_first_difference c_first_difference k_first_difference
  have F_length_of := fun_mk (st := s_length_of) l_length_of c_length_of k_length_of
  have F_alternately := fun_mk (st := s_alternately) l_alternately c_alternately k_alternately
  have F_longest_points := fun_mk (st := s_longest_points) l_longest_points c_longest_points k_longest_points
  have F_turning_points := fun_mk (st := s_turning_points) l_turning_points c_turning_points k_turning_points
  have F_steps_into_range := fun_mk (st := s_steps_into_range) l_steps_into_range c_steps_into_range k_steps_into_range
  have F_steps_through := fun_mk (st := s_steps_through) l_steps_through c_steps_through k_steps_through
  have F_simple_plan := fun_mk (st := s_simple_plan) l_simple_plan c_simple_plan k_simple_plan
  have F_first_rooms := fun_mk (st := s_first_rooms) l_first_rooms c_first_rooms k_first_rooms
  have F_settled_carrying := fun_mk (st := s_settled_carrying) l_settled_carrying c_settled_carrying k_settled_carrying
  have F_long_run := fun_mk (st := s_long_run) l_long_run c_long_run k_long_run
  have F_spared_carrying := fun_mk (st := s_spared_carrying) l_spared_carrying c_spared_carrying k_spared_carrying
  have F_saving := fun_mk (st := s_saving) l_saving c_saving k_saving
  have F_fewest_chairs := fun_mk (st := s_fewest_chairs) l_fewest_chairs c_fewest_chairs k_fewest_chairs
  have F_sparing_chairs := fun_mk (st := s_sparing_chairs) l_sparing_chairs c_sparing_chairs k_sparing_chairs
  have F_best_chairs := fun_mk (st := s_best_chairs) l_best_chairs c_best_chairs k_best_chairs
  have F_find_evidence := fun_mk (st := s_find_evidence) l_find_evidence c_find_evidence k_find_evidence
  have F_check_evidence := fun_mk (st := s_check_evidence) l_check_evidence c_check_evidence k_check_evidence
  have F_judge_evidence := fun_mk (st := s_judge_evidence) l_judge_evidence c_judge_evidence k_judge_evidence
  have F__law_two_meetings := fun_mk (st := s__law_two_meetings) l__law_two_meetings c__law_two_meetings k__law_two_meetings
  have F__law_all_chairs := fun_mk (st := s__law_all_chairs) l__law_all_chairs c__law_all_chairs k__law_all_chairs
  have F__law_turning := fun_mk (st := s__law_turning) l__law_turning c__law_turning k__law_turning
  have F_law := fun_mk (st := s_law) l_law c_law k_law
  have Fminit := fun_mk (st := sInit) lminit cminit kminit
  have Fmjoined := fun_mk (st := sJoined) lmjoined cmjoined kmjoined
  have Fmst := fun_mk (st := sSteps) lmst cmst kmst
  have b_is_whole := F_is_whole.binds (ps := ["value"]) fun _ _ _ _ _ _ us hl => match us, hl with | [_], _ => rfl
  have b_is_number := F_is_number.binds (ps := ["value", "least", "most"]) fun _ _ _ _ _ _ us hl => match us, hl with | [_, _, _], _ => rfl
  have b_check_number := F_check_number.binds (ps := ["value", "least", "most"]) fun _ _ _ _ _ _ us hl => match us, hl with | [_, _, _], _ => rfl
  have b_check_house := F_check_house.binds (ps := ["plan", "chairs"]) fun _ _ _ _ _ _ us hl => match us, hl with | [_, _], _ => rfl
  have b_is_step := F_is_step.binds (ps := ["step"]) fun _ _ _ _ _ _ us hl => match us, hl with | [_], _ => rfl
  have b__law_start := F__law_start.binds (ps := ["_law_script"]) fun _ _ _ _ _ _ us hl => match us, hl with | [_], _ => rfl
  have b__law_drawn := F__law_drawn.binds (ps := ["_law_state", "_law_count"]) fun _ _ _ _ _ _ us hl => match us, hl with | [_, _], _ => rfl
  have b_after_step := F_after_step.binds (ps := ["step", "chairs", "red"]) fun _ _ _ _ _ _ us hl => match us, hl with | [_, _, _], _ => rfl
  have b_after_steps := F_after_steps.binds (ps := ["steps", "chairs", "red"]) fun _ _ _ _ _ _ us hl => match us, hl with | [_, _, _], _ => rfl
  have b_few_rounds := F_few_rounds.binds (ps := ["rounds"]) fun _ _ _ _ _ _ us hl => match us, hl with | [_], _ => rfl
  have b_after_rounds := F_after_rounds.binds (ps := ["plan", "chairs", "red", "rounds"]) fun _ _ _ _ _ _ us hl => match us, hl with | [_, _, _, _], _ => rfl
  have b_check_start := F_check_start.binds (ps := ["plan", "chairs", "start"]) fun _ _ _ _ _ _ us hl => match us, hl with | [_, _, _], _ => rfl
  have b_checked_rounds := F_checked_rounds.binds (ps := ["plan", "chairs", "start", "rounds"]) fun _ _ _ _ _ _ us hl => match us, hl with | [_, _, _, _], _ => rfl
  have b_total_carried := F_total_carried.binds (ps := ["plan", "chairs", "start", "rounds"]) fun _ _ _ _ _ _ us hl => match us, hl with | [_, _, _, _], _ => rfl
  have b_red_chairs := F_red_chairs.binds (ps := ["plan", "chairs", "start", "rounds"]) fun _ _ _ _ _ _ us hl => match us, hl with | [_, _, _, _], _ => rfl
  have b_allowed_range := F_allowed_range.binds (ps := ["step", "chairs", "turned"]) fun _ _ _ _ _ _ us hl => match us, hl with | [_, _, _], _ => rfl
  have b_narrowed := F_narrowed.binds (ps := ["low", "high", "least", "most"]) fun _ _ _ _ _ _ us hl => match us, hl with | [_, _, _, _], _ => rfl
  have b_nearest := F_nearest.binds (ps := ["number", "least", "most"]) fun _ _ _ _ _ _ us hl => match us, hl with | [_, _, _], _ => rfl
  have b_effect_of := F_effect_of.binds (ps := ["steps", "chairs"]) fun _ _ _ _ _ _ us hl => match us, hl with | [_, _], _ => rfl
  have b_summary := F_summary.binds (ps := ["plan", "chairs"]) fun _ _ _ _ _ _ us hl => match us, hl with | [_, _], _ => rfl
  have b_telling_starts := F_telling_starts.binds (ps := ["plan", "other", "chairs"]) fun _ _ _ _ _ _ us hl => match us, hl with | [_, _, _], _ => rfl
  have b_first_difference := F_first_difference.binds (ps := ["plan", "other", "chairs"]) fun _ _ _ _ _ _ us hl => match us, hl with | [_, _, _], _ => rfl
  have b_length_of := F_length_of.binds (ps := ["points"]) fun _ _ _ _ _ _ us hl => match us, hl with | [_], _ => rfl
  have b_alternately := F_alternately.binds (ps := ["first", "second", "many"]) fun _ _ _ _ _ _ us hl => match us, hl with | [_, _, _], _ => rfl
  have b_longest_points := F_longest_points.binds (ps := ["chairs", "start", "goal", "between"]) fun _ _ _ _ _ _ us hl => match us, hl with | [_, _, _, _], _ => rfl
  have b_turning_points := F_turning_points.binds (ps := ["chairs", "start", "goal", "extra"]) fun _ _ _ _ _ _ us hl => match us, hl with | [_, _, _, _], _ => rfl
  have b_steps_into_range := F_steps_into_range.binds (ps := ["chairs", "low", "high"]) fun _ _ _ _ _ _ us hl => match us, hl with | [_, _, _], _ => rfl
  have b_steps_through := F_steps_through.binds (ps := ["chairs", "points"]) fun _ _ _ _ _ _ us hl => match us, hl with | [_, _], _ => rfl
  have b_simple_plan := F_simple_plan.binds (ps := ["plan", "chairs"]) fun _ _ _ _ _ _ us hl => match us, hl with | [_, _], _ => rfl
  have b_first_rooms := F_first_rooms.binds (ps := ["steps"]) fun _ _ _ _ _ _ us hl => match us, hl with | [_], _ => rfl
  have b_settled_carrying := F_settled_carrying.binds (ps := ["plan", "chairs"]) fun _ _ _ _ _ _ us hl => match us, hl with | [_, _], _ => rfl
  have b_long_run := F_long_run.binds (ps := ["plan", "chairs"]) fun _ _ _ _ _ _ us hl => match us, hl with | [_, _], _ => rfl
  have b_spared_carrying := F_spared_carrying.binds (ps := ["plan", "chairs"]) fun _ _ _ _ _ _ us hl => match us, hl with | [_, _], _ => rfl
  have b_saving := F_saving.binds (ps := ["plan", "chairs"]) fun _ _ _ _ _ _ us hl => match us, hl with | [_, _], _ => rfl
  have b_fewest_chairs := F_fewest_chairs.binds (ps := ["plan"]) fun _ _ _ _ _ _ us hl => match us, hl with | [_], _ => rfl
  have b_sparing_chairs := F_sparing_chairs.binds (ps := ["plan"]) fun _ _ _ _ _ _ us hl => match us, hl with | [_], _ => rfl
  have b_best_chairs := F_best_chairs.binds (ps := ["plan", "price", "carry_price", "rounds"]) fun _ _ _ _ _ _ us hl => match us, hl with | [_, _, _, _], _ => rfl
  have b_find_evidence := F_find_evidence.binds (ps := ["plan", "chairs", "start"]) fun _ _ _ _ _ _ us hl => match us, hl with | [_, _, _], _ => rfl
  have b_check_evidence := F_check_evidence.binds (ps := ["rooms", "indexes"]) fun _ _ _ _ _ _ us hl => match us, hl with | [_, _], _ => rfl
  have b_judge_evidence := F_judge_evidence.binds (ps := ["plan", "chairs", "start", "indexes"]) fun _ _ _ _ _ _ us hl => match us, hl with | [_, _, _, _], _ => rfl
  have b__law_two_meetings := F__law_two_meetings.binds (ps := ["_law_a", "_law_b", "_law_short", "_law_rounds"]) fun _ _ _ _ _ _ us hl => match us, hl with | [_, _, _, _], _ => rfl
  have b__law_all_chairs := F__law_all_chairs.binds (ps := ["_law_chairs", "_law_many"]) fun _ _ _ _ _ _ us hl => match us, hl with | [_, _], _ => rfl
  have b__law_turning := F__law_turning.binds (ps := ["_law_a", "_law_short"]) fun _ _ _ _ _ _ us hl => match us, hl with | [_, _], _ => rfl
  have bmst := Fmst.binds (ps := ["self"]) fun _ _ _ _ _ _ us hl => match us, hl with | [_], _ => rfl
  have Tt : Txt K mg C TU pS fmst (.type "type") := ⟨Bb, ⟨pg, hd, po, sa⟩, nS, PySem.W.mg_of X G aC, ⟨rd, ga⟩, ⟨_, v1, _, rfl⟩, ⟨_, v2, _, rfl⟩, ⟨_, w2, ⟨_, rfl⟩, w3, rfl⟩, PySem.W.mg_of X G aT,
    fun H => .inr ⟨_, _, _, lT, rfl, rfl, by show 1 ≤ sizeLine; decide, .cons ⟨_, rfl⟩ .nil⟩, ⟨pA, pG, pT, rs, pR⟩⟩
  refine ⟨PySem.W.fnOf "law" "law" (defArgs s_law) (defBody s_law) (defScope s_law) .none kV_law dc_law pm_law an_law cd_law ct_law, fun s v => .of_eq rfl, fun base _ _ => ?_⟩
  have at_ := fun {x : Str} {f : Addr} (a : PySem.W.nsIn K mainGlobals x = some (some (.ref f))) => PySem.W.mg_of X G a
  have Gg : Gs P w K mg base C fmst _ := ⟨ok_steps Fmst Tt, bmst⟩
  have Mm : Mk K C fminit := ⟨mk, aminit, iminit, kc⟩
  have Mj : Meth K C "joined" fmjoined := ⟨amjoined, imjoined, kmjoined⟩
  have D_is_whole := dn_mk (P := P) (w := w) (base := base) (at_ a_is_whole) k_is_whole (ok_iswhole F_is_whole Bb) b_is_whole
  have D_is_number := dn_mk (P := P) (w := w) (base := base) (at_ a_is_number) k_is_number (ok_isnum F_is_number D_is_whole) b_is_number
  have D_check_number := dn_mk (P := P) (w := w) (base := base) (at_ a_check_number) k_check_number (ok_chknum F_check_number D_is_number) b_check_number
  have D_check_house := dn_mk (P := P) (w := w) (base := base) (at_ a_check_house) k_check_house (ok_chkhouse F_check_house Tt Gg D_check_number) b_check_house
  have D_is_step := dn_mk (P := P) (w := w) (base := base) (at_ a_is_step) k_is_step (ok_isstep F_is_step Tt D_is_number) b_is_step
  have GI := ok_init Fminit Tt D_is_step
  have GJ := ok_joined Fmjoined Tt Gg Mm GI
  have D_isV := dn_mk (P := P) (w := w) (base := base) (at_ a_is_step) k_is_step (ok_isstepV F_is_step Tt D_is_number) b_is_step
  have GIV := ok_initV Fminit Tt D_isV
  have Fmalt := fun_mk (st := sAlt) lmalt cmalt kmalt
  have GA := ok_alt (P := P) (w := w) (base := base) Fmalt Tt Mm GI
  have CA : ClX.CMet K C (.type "type") "alternating" pA2 fmalt := ⟨cA, ⟨rs2, cB⟩, cC⟩
  have D__law_start := dn_mk (P := P) (w := w) (base := base) (at_ a__law_start) k__law_start (ok_start F__law_start ) b__law_start
  have D__law_drawn := dn_mk (P := P) (w := w) (base := base) (at_ a__law_drawn) k__law_drawn (ok_drawn F__law_drawn Bb) b__law_drawn
  have D_after_step := dn_mk (P := P) (w := w) (base := base) (at_ a_after_step) k_after_step (ok_astep F_after_step Tt) b_after_step
  have D_after_steps := dn_mk (P := P) (w := w) (base := base) (at_ a_after_steps) k_after_steps (ok_asteps F_after_steps D_after_step) b_after_steps
  have D_few_rounds := dn_mk (P := P) (w := w) (base := base) (at_ a_few_rounds) k_few_rounds (ok_few_rounds F_few_rounds ) b_few_rounds
  have D_after_rounds := dn_mk (P := P) (w := w) (base := base) (at_ a_after_rounds) k_after_rounds (ok_after_rounds F_after_rounds Tt Gg D_few_rounds D_after_steps) b_after_rounds
  have D_check_start := dn_mk (P := P) (w := w) (base := base) (at_ a_check_start) k_check_start (ok_check_start F_check_start D_check_house D_check_number) b_check_start
  have D_checked_rounds := dn_mk (P := P) (w := w) (base := base) (at_ a_checked_rounds) k_checked_rounds (ok_checked_rounds F_checked_rounds ⟨_, PySem.W.mg_of X G q_MAX_ROUNDS, ⟨_, rfl⟩⟩ D_check_start D_check_number D_after_rounds) b_checked_rounds
  have D_total_carried := dn_mk (P := P) (w := w) (base := base) (at_ a_total_carried) k_total_carried (ok_total_carried F_total_carried D_checked_rounds) b_total_carried
  have D_red_chairs := dn_mk (P := P) (w := w) (base := base) (at_ a_red_chairs) k_red_chairs (ok_red_chairs F_red_chairs D_checked_rounds) b_red_chairs
  have D_allowed_range := dn_mk (P := P) (w := w) (base := base) (at_ a_allowed_range) k_allowed_range (ok_allow F_allowed_range ) b_allowed_range
  have D_narrowed := dn_mk (P := P) (w := w) (base := base) (at_ a_narrowed) k_narrowed (ok_narrow F_narrowed Bb) b_narrowed
  have D_nearest := dn_mk (P := P) (w := w) (base := base) (at_ a_nearest) k_nearest (ok_near F_nearest Bb) b_nearest
  have D_effect_of := dn_mk (P := P) (w := w) (base := base) (at_ a_effect_of) k_effect_of (ok_effect F_effect_of Tt D_allowed_range D_narrowed D_nearest) b_effect_of
  have D_summary := dn_mk (P := P) (w := w) (base := base) (at_ a_summary) k_summary (ok_summary F_summary Tt Gg D_check_house D_effect_of) b_summary
  have D_telling_starts := dn_mk (P := P) (w := w) (base := base) (at_ a_telling_starts) k_telling_starts (ok_tell F_telling_starts Tt D_summary) b_telling_starts
  have D_first_difference := dn_mk (P := P) (w := w) (base := base) (at_ a_first_difference) k_first_difference (ok_first F_first_difference Tt Gg D_check_house D_telling_starts D_after_steps) b_first_difference
  have D_length_of := dn_mk (P := P) (w := w) (base := base) (at_ a_length_of) k_length_of (ok_length_of F_length_of Tt) b_length_of
  have D_alternately := dn_mk (P := P) (w := w) (base := base) (at_ a_alternately) k_alternately (ok_alternately F_alternately Tt) b_alternately
  have D_longest_points := dn_mk (P := P) (w := w) (base := base) (at_ a_longest_points) k_longest_points (ok_longest_points F_longest_points D_alternately D_length_of) b_longest_points
  have D_turning_points := dn_mk (P := P) (w := w) (base := base) (at_ a_turning_points) k_turning_points (ok_turning_points F_turning_points D_length_of D_longest_points) b_turning_points
  have D_steps_into_range := dn_mk (P := P) (w := w) (base := base) (at_ a_steps_into_range) k_steps_into_range (ok_steps_into_range F_steps_into_range ) b_steps_into_range
  have D_steps_through := dn_mk (P := P) (w := w) (base := base) (at_ a_steps_through) k_steps_through (ok_steps_through F_steps_through ) b_steps_through
  have D_simple_plan := dn_mk (P := P) (w := w) (base := base) (at_ a_simple_plan) k_simple_plan (ok_simple_plan F_simple_plan Tt Mm GIV D_summary D_steps_into_range D_steps_through D_turning_points) b_simple_plan
  have D_first_rooms := dn_mk (P := P) (w := w) (base := base) (at_ a_first_rooms) k_first_rooms (ok_first_rooms F_first_rooms Tt) b_first_rooms
  have D_settled_carrying := dn_mk (P := P) (w := w) (base := base) (at_ a_settled_carrying) k_settled_carrying (ok_settled_carrying F_settled_carrying D_after_rounds) b_settled_carrying
  have D_long_run := dn_mk (P := P) (w := w) (base := base) (at_ a_long_run) k_long_run (ok_long_run F_long_run D_check_house D_settled_carrying) b_long_run
  have D_spared_carrying := dn_mk (P := P) (w := w) (base := base) (at_ a_spared_carrying) k_spared_carrying (ok_spared_carrying F_spared_carrying D_settled_carrying) b_spared_carrying
  have D_saving := dn_mk (P := P) (w := w) (base := base) (at_ a_saving) k_saving (ok_saving F_saving Tt D_check_house D_check_number D_spared_carrying) b_saving
  have D_fewest_chairs := dn_mk (P := P) (w := w) (base := base) (at_ a_fewest_chairs) k_fewest_chairs (ok_fewest_chairs F_fewest_chairs Tt Gg) b_fewest_chairs
  have D_sparing_chairs := dn_mk (P := P) (w := w) (base := base) (at_ a_sparing_chairs) k_sparing_chairs (ok_sparing_chairs F_sparing_chairs Tt Gg D_first_rooms) b_sparing_chairs
  have D_best_chairs := dn_mk (P := P) (w := w) (base := base) (at_ a_best_chairs) k_best_chairs (ok_best_chairs F_best_chairs ⟨_, PySem.W.mg_of X G q_MAX_PRICE, ⟨_, rfl⟩⟩ ⟨_, PySem.W.mg_of X G q_MAX_PRICED_ROUNDS, ⟨_, rfl⟩⟩ D_check_number D_sparing_chairs D_fewest_chairs D_spared_carrying) b_best_chairs
  have D_find_evidence := dn_mk (P := P) (w := w) (base := base) (at_ a_find_evidence) k_find_evidence (ok_find_evidence F_find_evidence Tt Gg D_check_start D_first_rooms D_after_step) b_find_evidence
  have D_check_evidence := dn_mk (P := P) (w := w) (base := base) (at_ a_check_evidence) k_check_evidence (ok_check_evidence F_check_evidence Bb D_is_number) b_check_evidence
  have D_judge_evidence := dn_mk (P := P) (w := w) (base := base) (at_ a_judge_evidence) k_judge_evidence (ok_judge_evidence F_judge_evidence Tt Gg D_check_start D_first_rooms D_check_evidence) b_judge_evidence
  have D__law_two_meetings := dn_mk (P := P) (w := w) (base := base) (at_ a__law_two_meetings) k__law_two_meetings (ok__law_two_meetings F__law_two_meetings Tt Mm GI D_long_run D_summary D_total_carried D_red_chairs D_saving D_fewest_chairs D_sparing_chairs D_judge_evidence D_find_evidence D_best_chairs D_first_difference) b__law_two_meetings
  have D__law_all_chairs := dn_mk (P := P) (w := w) (base := base) (at_ a__law_all_chairs) k__law_all_chairs (ok__law_all_chairs F__law_all_chairs Tt Gg Mm GI Mj GJ CA GA D_summary D_long_run D_simple_plan) b__law_all_chairs
  have D__law_turning := dn_mk (P := P) (w := w) (base := base) (at_ a__law_turning) k__law_turning (ok__law_turning F__law_turning Tt Mm GI D_summary D_sparing_chairs D_long_run D_total_carried D_red_chairs) b__law_turning
  exact ok_law F_law Tt D__law_start D__law_drawn D__law_two_meetings D__law_turning D__law_all_chairs 
end Cc


open PySem PySem.W PyProof.Rows
set_option maxRecDepth 100000 in
set_option maxHeartbeats 0 in
theorem PySem.Challenge.cw_chaircarry_k14_known_houses_holds : PySem.Challenge.rw_chaircarry_k14_known_houses.Holds := by
  w_on; o_law; k_head; (case hw => w_witness2)
  k_fill
  refine L2.walk_of (l := PySem.Challenge.rw_chaircarry_k14_known_houses) (n := 63) (k := 9) (x := "_law_script") (CX := fun _ => L2.CX0) (sp := fun w => Cc.spLaw _) rfl (by decide) rfl ⟨rfl, by decide, by decide⟩ (fun w h Y => PySem.W.kIn_of Y) ?F (fun _ _ a ns hl hO hS => ⟨a, ns, rfl, Cc.sqF_of hS hO, hl, fun _ => rfl⟩) fun _ _ _ _ _ z => z
  case F =>
    intro w mg fa h KX G hmg
    refine' Cc.all_mk KX G hmg ?a_is_whole ?l_is_whole ?c_is_whole ?k_is_whole ?a_is_number ?l_is_number ?c_is_number ?k_is_number ?a_check_number ?l_check_number ?c_check_number ?k_check_number ?a_check_house ?l_check_house ?c_check_house ?k_check_house ?a_is_step ?l_is_step ?c_is_step ?k_is_step ?a__law_start ?l__law_start ?c__law_start ?k__law_start ?a__law_drawn ?l__law_drawn ?c__law_drawn ?k__law_drawn ?a_after_step ?l_after_step ?c_after_step ?k_after_step ?a_after_steps ?l_after_steps ?c_after_steps ?k_after_steps ?a_few_rounds ?l_few_rounds ?c_few_rounds ?k_few_rounds ?a_after_rounds ?l_after_rounds ?c_after_rounds ?k_after_rounds ?a_check_start ?l_check_start ?c_check_start ?k_check_start ?a_checked_rounds ?l_checked_rounds ?c_checked_rounds ?k_checked_rounds ?a_total_carried ?l_total_carried ?c_total_carried ?k_total_carried ?a_red_chairs ?l_red_chairs ?c_red_chairs ?k_red_chairs ?a_allowed_range ?l_allowed_range ?c_allowed_range ?k_allowed_range ?a_narrowed ?l_narrowed ?c_narrowed ?k_narrowed ?a_nearest ?l_nearest ?c_nearest ?k_nearest ?a_effect_of ?l_effect_of ?c_effect_of ?k_effect_of ?a_summary ?l_summary ?c_summary ?k_summary ?a_telling_starts ?l_telling_starts ?c_telling_starts ?k_telling_starts ?a_first_difference ?l_first_difference ?c_first_difference ?k_first_difference ?a_length_of ?l_length_of ?c_length_of ?k_length_of ?a_alternately ?l_alternately ?c_alternately ?k_alternately ?a_longest_points ?l_longest_points ?c_longest_points ?k_longest_points ?a_turning_points ?l_turning_points ?c_turning_points ?k_turning_points ?a_steps_into_range ?l_steps_into_range ?c_steps_into_range ?k_steps_into_range ?a_steps_through ?l_steps_through ?c_steps_through ?k_steps_through ?a_simple_plan ?l_simple_plan ?c_simple_plan ?k_simple_plan ?a_first_rooms ?l_first_rooms ?c_first_rooms ?k_first_rooms ?a_settled_carrying ?l_settled_carrying ?c_settled_carrying ?k_settled_carrying ?a_long_run ?l_long_run ?c_long_run ?k_long_run ?a_spared_carrying ?l_spared_carrying ?c_spared_carrying ?k_spared_carrying ?a_saving ?l_saving ?c_saving ?k_saving ?a_fewest_chairs ?l_fewest_chairs ?c_fewest_chairs ?k_fewest_chairs ?a_sparing_chairs ?l_sparing_chairs ?c_sparing_chairs ?k_sparing_chairs ?a_best_chairs ?l_best_chairs ?c_best_chairs ?k_best_chairs ?a_find_evidence ?l_find_evidence ?c_find_evidence ?k_find_evidence ?a_check_evidence ?l_check_evidence ?c_check_evidence ?k_check_evidence ?a_judge_evidence ?l_judge_evidence ?c_judge_evidence ?k_judge_evidence ?a__law_two_meetings ?l__law_two_meetings ?c__law_two_meetings ?k__law_two_meetings ?a__law_all_chairs ?l__law_all_chairs ?c__law_all_chairs ?k__law_all_chairs ?a__law_turning ?l__law_turning ?c__law_turning ?k__law_turning ?a_law ?l_law ?c_law ?k_law ?aC ?aminit ?iminit ?lminit ?cminit ?kminit ?amjoined ?imjoined ?lmjoined ?cmjoined ?kmjoined ?cA ?cB ?cC ?lmalt ?cmalt ?kmalt ?pA ?pG ?pT ?pR ?lmst ?cmst ?kmst ?pg ?hd ?po ?sa ?mk ?kc ?nS ?rd ?ga ?v1 ?v2 ?w2 ?w3 ?aT ?lT ?q_MAX_ROUNDS ?q_MAX_PRICE ?q_MAX_PRICED_ROUNDS ?z0 ?z1 ?z2 ?z3 ?z4 ?z5 ?z6 ?z7 ?z8 ?z9 ?z10 ?z11 ?z12 ?z13 ?z14 ?z15
    (case a_is_whole => k_is); (case l_is_whole => k_is); (case c_is_whole => k_is); (case k_is_whole => k_is); (case a_is_number => k_is); (case l_is_number => k_is)
    (case c_is_number => k_is); (case k_is_number => k_is); (case a_check_number => k_is); (case l_check_number => k_is); (case c_check_number => k_is); (case k_check_number => k_is)
    (case a_check_house => k_is); (case l_check_house => k_is); (case c_check_house => k_is); (case k_check_house => k_is); (case a_is_step => k_is); (case l_is_step => k_is)
    (case c_is_step => k_is); (case k_is_step => k_is); (case a__law_start => k_is); (case l__law_start => k_is); (case c__law_start => k_is); (case k__law_start => k_is)
    (case a__law_drawn => k_is); (case l__law_drawn => k_is); (case c__law_drawn => k_is); (case k__law_drawn => k_is); (case a_after_step => k_is); (case l_after_step => k_is)
    (case c_after_step => k_is); (case k_after_step => k_is); (case a_after_steps => k_is); (case l_after_steps => k_is); (case c_after_steps => k_is); (case k_after_steps => k_is)
    (case a_few_rounds => k_is); (case l_few_rounds => k_is); (case c_few_rounds => k_is); (case k_few_rounds => k_is); (case a_after_rounds => k_is); (case l_after_rounds => k_is)
    (case c_after_rounds => k_is); (case k_after_rounds => k_is); (case a_check_start => k_is); (case l_check_start => k_is); (case c_check_start => k_is); (case k_check_start => k_is)
    (case a_checked_rounds => k_is); (case l_checked_rounds => k_is); (case c_checked_rounds => k_is); (case k_checked_rounds => k_is); (case a_total_carried => k_is); (case l_total_carried => k_is)
    (case c_total_carried => k_is); (case k_total_carried => k_is); (case a_red_chairs => k_is); (case l_red_chairs => k_is); (case c_red_chairs => k_is); (case k_red_chairs => k_is)
    (case a_allowed_range => k_is); (case l_allowed_range => k_is); (case c_allowed_range => k_is); (case k_allowed_range => k_is); (case a_narrowed => k_is); (case l_narrowed => k_is)
    (case c_narrowed => k_is); (case k_narrowed => k_is); (case a_nearest => k_is); (case l_nearest => k_is); (case c_nearest => k_is); (case k_nearest => k_is)
    (case a_effect_of => k_is); (case l_effect_of => k_is); (case c_effect_of => k_is); (case k_effect_of => k_is); (case a_summary => k_is); (case l_summary => k_is)
    (case c_summary => k_is); (case k_summary => k_is); (case a_telling_starts => k_is); (case l_telling_starts => k_is); (case c_telling_starts => k_is); (case k_telling_starts => k_is)
    (case a_first_difference => k_is); (case l_first_difference => k_is); (case c_first_difference => k_is); (case k_first_difference => k_is); (case a_length_of => k_is); (case l_length_of => k_is)
    (case c_length_of => k_is); (case k_length_of => k_is); (case a_alternately => k_is); (case l_alternately => k_is); (case c_alternately => k_is); (case k_alternately => k_is)
    (case a_longest_points => k_is); (case l_longest_points => k_is); (case c_longest_points => k_is); (case k_longest_points => k_is); (case a_turning_points => k_is); (case l_turning_points => k_is)
    (case c_turning_points => k_is); (case k_turning_points => k_is); (case a_steps_into_range => k_is); (case l_steps_into_range => k_is); (case c_steps_into_range => k_is); (case k_steps_into_range => k_is)
    (case a_steps_through => k_is); (case l_steps_through => k_is); (case c_steps_through => k_is); (case k_steps_through => k_is); (case a_simple_plan => k_is); (case l_simple_plan => k_is)
    (case c_simple_plan => k_is); (case k_simple_plan => k_is); (case a_first_rooms => k_is); (case l_first_rooms => k_is); (case c_first_rooms => k_is); (case k_first_rooms => k_is)
    (case a_settled_carrying => k_is); (case l_settled_carrying => k_is); (case c_settled_carrying => k_is); (case k_settled_carrying => k_is); (case a_long_run => k_is); (case l_long_run => k_is)
    (case c_long_run => k_is); (case k_long_run => k_is); (case a_spared_carrying => k_is); (case l_spared_carrying => k_is); (case c_spared_carrying => k_is); (case k_spared_carrying => k_is)
    (case a_saving => k_is); (case l_saving => k_is); (case c_saving => k_is); (case k_saving => k_is); (case a_fewest_chairs => k_is); (case l_fewest_chairs => k_is)
    (case c_fewest_chairs => k_is); (case k_fewest_chairs => k_is); (case a_sparing_chairs => k_is); (case l_sparing_chairs => k_is); (case c_sparing_chairs => k_is); (case k_sparing_chairs => k_is)
    (case a_best_chairs => k_is); (case l_best_chairs => k_is); (case c_best_chairs => k_is); (case k_best_chairs => k_is); (case a_find_evidence => k_is); (case l_find_evidence => k_is)
    (case c_find_evidence => k_is); (case k_find_evidence => k_is); (case a_check_evidence => k_is); (case l_check_evidence => k_is); (case c_check_evidence => k_is); (case k_check_evidence => k_is)
    (case a_judge_evidence => k_is); (case l_judge_evidence => k_is); (case c_judge_evidence => k_is); (case k_judge_evidence => k_is); (case a__law_two_meetings => k_is); (case l__law_two_meetings => k_is)
    (case c__law_two_meetings => k_is); (case k__law_two_meetings => k_is); (case a__law_all_chairs => k_is); (case l__law_all_chairs => k_is); (case c__law_all_chairs => k_is); (case k__law_all_chairs => k_is)
    (case a__law_turning => k_is); (case l__law_turning => k_is); (case c__law_turning => k_is); (case k__law_turning => k_is); (case a_law => k_is); (case l_law => k_is)
    (case c_law => k_is); (case k_law => k_is); (case aC => k_is); (case aminit => k_is); (case iminit => k_is); (case lminit => k_is)
    (case cminit => k_is); (case kminit => k_is); (case amjoined => k_is); (case imjoined => k_is); (case lmjoined => k_is); (case cmjoined => k_is)
    (case kmjoined => k_is); (case cA => k_is); (case cB => k_is); (case cC => k_is); (case lmalt => k_is); (case cmalt => k_is)
    (case kmalt => k_is); (case pA => k_is); (case pG => k_is); (case pT => k_is); (case pR => k_is); (case lmst => k_is)
    (case cmst => k_is); (case kmst => k_is); (case pg => k_is); (case hd => k_is); (case po => k_is); (case sa => k_is)
    (case mk => k_is); (case kc => k_is); (case nS => k_is); (case rd => k_is); (case ga => k_is); (case v1 => k_is)
    (case v2 => k_is); (case w2 => k_is); (case w3 => k_is); (case aT => k_is); (case lT => k_is); (case q_MAX_ROUNDS => k_is)
    (case q_MAX_PRICE => k_is); (case q_MAX_PRICED_ROUNDS => k_is); (case z0 => k_is); (case z1 => k_is); (case z2 => k_is); (case z3 => k_is)
    (case z4 => k_is); (case z5 => k_is); (case z6 => k_is); (case z7 => k_is); (case z8 => k_is); (case z9 => k_is)
    (case z10 => k_is); (case z11 => k_is); (case z12 => k_is); (case z13 => k_is); (case z14 => k_is); (case z15 => k_is)
#print axioms PySem.Challenge.cw_chaircarry_k14_known_houses_holds
