import PyProof.Rows.All
import Wide.All
import OpenK.AllK
import Wide.FinOn
import HandS.ForMost
import HandS.Star
import HandS.Property
import HandS.ClsMeth
import HandS.IsInst
import HandS.Wide
import HandS.Walk
import HandS.TupAny
import KE.GoesEnum
import HandS.Style
import HandS.Flt
import HandS.Conv
import HandS.SetBool
import HandS.Strs
import HandS.Text
import HandS.StrMore
import KE.GoesEnumKw
import HandS.SortKw
import HandS.Codes
import HandS.GenList
import HandS.Lambda
import HandS.WordsExc
import HandS.FStr
import HandS.ExcValue
import HandS.SuiteRaise
import KE.KxField
import HandS.Small
import HandS.List
import HandS.WordsList
import KE.DataFind
import HandS.Deep
import HandS.ExcIs
import KE.KRevSl
import HandS.WideBits
import KE.KSuper
import HandS.More
import HandS.GenYield
import HandS.ExcSuper
import HandS.ExcField
import HandS.MakeKwOnly
import KE.KExcSuper
import HandS.RaiseFrom
import HandS.MethStar
import KE.KUnpackStar
import PyProof.RulesMatchSeq
import HandS.Dict
import PyProof.DictUpdate
import HandS.EndTab
import HandS.Defaults
import PySem.Challenge.RW_chaircarry_k42_whole_texts_of_bookings
set_option Elab.async false
set_option linter.all false
set_option maxRecDepth 100000
set_option maxHeartbeats 5000000
/-! Own rules: enumerate over a tuple, list.extend by a tuple, C( *xs), C() by a positional promise. -/
namespace Cc
open PySem PySem.Spec PyProof.Rows L2
/-! ### list.extend(tuple) -/
theorem extend_tup {prog : Program} {w : World} {A : Around} {Ez : Value → Shared → Prop} {s : Shared} {S it : Addr} {o : Obj} {xs items : Array Value} {n c₀ : Nat} {Qz : Fin → Shared → Prop}
    (kS : s.heap.get? S = some { cls := .type "list", data := .seq xs c₀ }) (ko : s.heap.get? it = some o) (kc : o.cls = .type "tuple") (kd : o.data = .seq items n)
    (kne : S ≠ it) (ksz : xs.size + items.size ≤ sizeLine)
    (hQ : Qz (.done (.ret .none)) { s with heap := s.heap.update S (Obj.mapSeq (· ++ items)) }) :
    wpAny (model prog w) A (Builtin.List.listExtendWith (.ref S) (.ref it) .none) Qz Ez s := by
  show wpAny _ A (Builtin.List.listExtendWith _ _ _) Qz Ez s; unfold Builtin.List.listExtendWith
  refine wpAny_bind (wpAny_typeOf ⟨o, ko, kc⟩ ?_)
  have g1 : (Builtin.List.listSameRef (.ref S) (.ref it) || Value.type "tuple" == Value.type "list" || Value.type "tuple" == Value.type "tuple") = true := by simp
  simp only [g1, if_true]
  refine wpAny_bind ?_
  unfold Builtin.List.listItems
  refine wpAny_bind (wpAny_seqItems ko kd (wpAny_pure ?_))
  refine wpAny_bind ?_
  refine wpAny_bind (wpAny_seqItems kS rfl (wpAny_pure ?_))
  have hdoor : (!xs.isEmpty && Builtin.List.listTooLong (xs.size + items.size)) = false := by rw [notLongL ksz, Bool.and_false]
  simp only [hdoor, Bool.false_eq_true, if_false]
  show wpAny _ A (updateSeq S (· ++ items) >>= fun _ => ret Value.none) _ _ s
  refine wpAny_bind (wpAny_updateSeq kS rfl ?_)
  exact wpAny_pure hQ
section
variable {X : Cx}
def rExtendT (K : PySem.W.Frag) : V → List V → Hp → VK → Prop := fun x vs Hh Qz => ∃ l b xs zs, x = .ref l ∧ vs = [.ref b] ∧ Hh l = some (.lst xs) ∧ SqT K Hh b zs ∧ xs.length + zs.length ≤ sizeLine ∧ Qz .non (upd Hh l (.lst (xs ++ zs)))
theorem mt_extendT : MtM X "list.extend" (rExtendT X.K) := by
  intro pz s sg Hh x vs v us Qz J rx rw1 h
  obtain ⟨l, b, xs, zs, rfl, rfl, kH, kB, kz, qz⟩ := h
  cases rx
  obtain ⟨u, rfl, ru⟩ := rw1.one
  cases ru
  obtain ⟨z, vz, n, r, kl, e⟩ := J.lstM kH
  obtain ⟨vz2, r2, ⟨o, ko, kc, n2, kd⟩, kz2⟩ := J.tuple kB
  have hl2 := r2.length
  have kne : l ≠ b := fun qz => by
    subst qz
    rw [e] at ko
    cases ko
    have hc' : Value.type "list" = Value.type "tuple" := kc
    injection hc' with g1
    exact absurd g1 (by decide)
  have ksz : vz.toArray.size + vz2.toArray.size ≤ sizeLine := by rw [List.size_toArray, List.size_toArray]; omega
  refine call_meets (S := fun _ R s' => s' = s ∧ R (.ok (.ret Value.none)) { s with heap := s.heap.update l (Obj.mapSeq fun x => x ++ vz2.toArray) }) F.slot_list_extend ⟨_, e, rfl⟩ F.entry_list_extend (F.args_list_extend_2 _ _) ?_ ⟨rfl, ?_⟩
  · refine .of_wp fun prog w A R s' h => ?_
    obtain ⟨ks, h⟩ := h
    subst ks
    exact extend_tup e ko kc kd kne ksz ⟨_, rfl, h⟩
  · refine ⟨.non, _, J.lset (its' := vz ++ vz2) kH e (by simp) (r.append r2) ?_, rfl, qz⟩
    rw [List.length_append]
    omega
end
/-! ### enumerate(tuple) -/
/-- the enumerate object over the iterator at i -/
abbrev eOb (i : Addr) : Obj := { cls := .type "enumerate", data := .fields #[.none, .bool false, .ref i, rawInt 0, .none, .none] }
theorem meets_enum1 {v : Value} {o : Obj} {Hh : Heap → Prop} (Bz : Begins v o Hh) :
    Meets (Builtin.«enumerate.__new__» ⟨[.type "enumerate", v], []⟩) (fun _ R s => Hh s.heap ∧
      R (.ok (.ret (.ref (s.heap.push o).objs.size))) { s with heap := (s.heap.push o).push (eOb s.heap.objs.size) }) :=
  .of_wp fun pp ww A R s h => by
    obtain ⟨hp, g, d, tk, os⟩ := s; obtain ⟨g1, h⟩ := h
    have hsub := sub_enumerate
    have qz1 : ∀ {A' : Around} {Ez : Value → Shared → Prop} {Qz : Value → Shared → Prop}, Qz (.ref hp.objs.size) ⟨hp.push o, g, d, tk, os⟩ → wpAny (model pp ww) A' (pyIter v) Qz Ez ⟨hp, g, d, tk, os⟩ :=
      fun qz => Bz.iter pp ww _ _ ⟨hp, g, d, tk, os⟩ _ g1 qz
    wp_walk using qz1
    refine wpAny_stack_any fun zs => wpAny_pure ?_
    split
    · rename_i cz _ _ _ _ _
      cases (cz == Value.type "enumerate")
      · wp_walk using qz1
        exact ⟨_, rfl, h⟩
      · wp_walk using qz1
        exact ⟨_, rfl, h⟩
    · wp_walk using qz1
      exact ⟨_, rfl, h⟩
section
variable {prog : Program} {w : World} {A : Around} {Ez : Value → Shared → Prop} {s : Shared}
theorem call_enum1 {v : Value} {o : Obj} {Hh : Heap → Prop} {Qz : Value → Shared → Prop} (Bz : Begins v o Hh) (g1 : Hh s.heap)
    (h : ∀ h', IsEnum h' (s.heap.objs.size + 1) s.heap.objs.size 0 .none → h'.get? s.heap.objs.size = some o → h'.objs.size = s.heap.objs.size + 2 →
      (∀ b o, s.heap.get? b = some o → h'.get? b = some o) → Qz (.ref (s.heap.objs.size + 1)) { s with heap := h' }) :
    wpAny (model prog w) A (call (.type "enumerate") [v]) Qz Ez s := by
  have kz := Heap.size_push s.heap o
  have ke : IsEnum ((s.heap.push o).push (eOb s.heap.objs.size)) (s.heap.objs.size + 1) s.heap.objs.size 0 .none := kz ▸ Heap.get?_push_size (s.heap.push o) (o := eOb s.heap.objs.size) rfl
  refine callType_new F.called_enumerate (by decide)
    (F.typeCall_enumerate_1 _) (F.newCall_enumerate_1 _) (fun z => F.args_object_init_2 z _)
    F.entry_enumerate_new (meets_enum1 Bz) ⟨g1, ?_⟩
  show _ ∧ _
  rw [kz]
  refine ⟨⟨_, ke, rfl⟩, h _ ke (Heap.get?_push_of_some _ (Heap.get?_push_size _ Bz.free)) (by rw [Heap.size_push, kz]) fun b o x => Heap.get?_push_of_some _ (Heap.get?_push_of_some _ x)⟩
end
section
variable {prog : Program} {w : World} {A : Around} {Ez : Value → Shared → Prop} {s : Shared}
theorem pyNext_enum_end {e it t : Addr} {i : Nat} {items : Array Value} {c : Int} {olz : Value} {Qz : Option Value → Shared → Prop} (kx : items[i]? = none)
    (kh : A.in1.handled = none) (ke : IsEnum s.heap e it c olz) (kit : s.heap.IsTupleIter it t i) (ht : s.heap.IsTuple t items)
    (hQ : ∀ h', Heap.ExtBut it s.heap h' → Qz none { s with heap := h' }) : wpAny (model prog w) A (pyNext (.ref e)) Qz Ez s := by
  have kT : s.TypeIs (.ref e) "enumerate" := ⟨_, ke, rfl⟩
  unfold pyNext
  refine wpAny_bind (wpAny_attempt (wpAny_callSpecial?_slot (name := Str.ofString "__next__") kT F.slot_enumerate_next
    (wpAny_call_entry F.slot_enumerate_next kT F.entry_enumerate_next ?_ (F.args_enumerate_next_1 _))))
  show wpAny _ _ (field (Value.ref e) 2 >>= _) _ _ s
  refine wpAny_bind (wpAny_field ke rfl (x := .ref it) rfl ?_)
  refine wpAny_bind (wpAny_nextOf_tuple_end kh kit ht kx fun h' x ke' hx' => ?_)
  obtain ⟨o, ko, kc⟩ := hx'
  refine wpAny_bind (wpAny_isInstance (T := "StopIteration") (b := true) ⟨o, ko, kc⟩ isSubtype_stop ?_)
  exact wpAny_pure (hQ _ ke')
end
/-- the tuple at a, each item in a nw pair -/
def IteT (K : PySem.W.Frag) (a : Addr) : It :=
  ⟨fun i Hh => ∃ (xs : List V) (x : V), SqT K Hh a xs ∧ xs[i]? = some x, fun i Hh v H' => ∃ T x, v = .ref T ∧ Hh T = none ∧ H' = upd Hh T (.tup [.int (i : Nat), x]) ∧ ∀ xs, SqT K Hh a xs → xs[i]? = some x, fun i Hh => ∃ xs : List V, SqT K Hh a xs ∧ xs.length ≤ i⟩
theorem turn_enumT {P : Program} {w : World} {K : PySem.W.Frag} {elts : List Expr} {kk : Nat} {tpos : Pos} (a e it : Addr) :
    Turn P w K (.Tuple elts kk tpos) (IteT K a) [e, it] e (fun i h => (∃ olz, IsEnum h e it ((i : Nat) : Int) olz) ∧ h.IsTupleIter it a i ∧ e ≠ it ∧ a ≠ e ∧ a ≠ it) where
  mem := by simp
  obj := fun i h st b kb => by
    obtain ⟨⟨olz, ke⟩, ⟨o, ko, kc, kd⟩, _⟩ := st
    have ee : b = e ∨ b = it := by simpa using kb
    rcases ee with z | z
    · rw [z]; exact ⟨_, ke, fun v qz => nomatch qz⟩
    · rw [z]; exact ⟨o, ko, fun v qz => by rw [kd] at qz; cases qz⟩
  keep := fun i h h' st k => let ⟨⟨olz, ke⟩, hi, kne⟩ := st; ⟨⟨olz, k e (by simp) _ ke⟩, hi.at fun o qz => k it (by simp) o qz, kne⟩
  item := by
    intro X kP kw kK kc i pz s sg Hh Ez J kf st kg
    subst kP kw kK
    obtain ⟨⟨olz, ke⟩, kit, kne, kae, kai⟩ := st
    obtain ⟨xs, x, kq, kx⟩ := kg
    obtain ⟨vz, rw1, p, kz⟩ := J.tuple kq
    have kel : e < s.heap.objs.size := Heap.lt_size ke
    have kil : it < s.heap.objs.size := by obtain ⟨_, qz, _⟩ := kit; exact Heap.lt_size qz
    have hix : i < vz.toArray.size := by
      have := rw1.length
      have h2 := (List.getElem?_eq_some_iff.mp kx).1
      rw [List.size_toArray]
      omega
    have Dz := Draws.tuple (prog := X.prog) (w := X.w) (A := X.A.in1) (show X.A.in1.handled = none from J.ok.hd kc) it a kai vz.toArray
    refine wpAny_pyNext_enum_itemD Dz ke ⟨kit, p⟩ hix kne (by simp [kne, Ne.symm kae]) fun u h' tk ku ko hit' kT ksz kk => ?_
    have ru : RelV x u := by
      obtain ⟨u2, hu2, r2⟩ := rw1.get kx
      have e3 : u2 = u := by
        have ku' : vz[i]? = some u := by simpa using ku
        exact Option.some.inj (hu2.symm.trans ku')
      exact e3 ▸ r2
    refine ⟨_, rfl, wpAny_letOwnedTupleGo_enum (s := { s with heap := h', toks := tk + 1 }) ko fun h'' ke' sbz => ?_⟩
    have kT2 : h''.get? s.heap.objs.size = some { cls := .type "tuple", data := .seq #[.int i tk, u] } := (sbz.2 _ (Nat.ne_of_gt kel)).trans kT
    have nw : ObjOk X.prog X.w (upd Hh s.heap.objs.size (.tup [.int (i : Nat), x])) h'' s.heap.objs.size (.tup [.int (i : Nat), x]) :=
      ⟨by show 2 ≤ sizeLine; decide, [.int i tk, u], .cons ⟨_, rfl⟩ (.cons ru .nil), ⟨_, kT2, rfl, _, rfl⟩⟩
    have J1 : Inv X pz sg (upd Hh s.heap.objs.size (.tup [.int (i : Nat), x])) { s with heap := h'', toks := tk + 1 } :=
      J.turnedNew (ch := [e, it]) (fun b ob kb qz => (sbz.2 b (fun z => kb (by simp [z]))).trans (kk b ob (fun z => kb (by simp [z])) (fun z => kb (by simp [z])) qz)) kf (Nat.le_refl _) nw
    refine ⟨.ref s.heap.objs.size, _, J1, rfl, ⟨_, x, rfl, J.hok.fresh (Nat.le_refl _), rfl, fun ys hy => by rw [J.tuple_inj hy kq]; exact kx⟩, ⟨⟨u, ?_⟩, hit'.1.at fun o qz => (sbz.2 it (Ne.symm kne)).trans qz, kne, kae, kai⟩, fun b kb => ?_⟩
    · have e1 : (((i + 1 : Nat)) : Int) = (i : Int) + 1 := by omega
      rw [e1]; exact ke'
    · have kb' : b < s.heap.objs.size := by
        have ee : b = e ∨ b = it := by simpa using kb
        rcases ee with z | z
        · rw [z]; exact kel
        · rw [z]; exact kil
      rw [upd_ne (Nat.ne_of_lt kb')]
      exact (kf b kb).1
  done := by
    intro X kP kw kK kc i pz s sg Hh Ez J kf st kg
    subst kP kw kK
    obtain ⟨⟨olz, ke⟩, kit, kne, kae, kai⟩ := st
    obtain ⟨xs, kq, kx⟩ := kg
    obtain ⟨vz, rw1, p, kz⟩ := J.tuple kq
    obtain ⟨f0, f1, f2, f3, f4, f5⟩ := kf it (by simp)
    have hl := rw1.length
    exact pyNext_enum_end (by simp; omega) (show X.A.in1.handled = none from J.ok.hd kc) ke kit p fun h' eb => ⟨rfl, J.turned (t' := s.toks) (fun b o kb qz => eb b o kb qz) f0 f1 f3 f4 f5⟩
  self := fun A i s Qz Ez st h => let ⟨⟨_, ke⟩, _⟩ := st; wpAny_pyIter_enum ke h
def iEnumT (K : PySem.W.Frag) (ta : TA) : TI := fun sg Hh R => ta sg Hh fun vs H1 => ∃ a xs, vs = [.ref a] ∧ SqT K H1 a xs ∧ R (IteT K a) H1
theorem pi_enumT {X : Cx} {e : Expr} {ta : TA} {p pos tpos : Pos} {elts : List Expr} {kk : Nat} (kg : Gl X "enumerate") (km : X.mg "enumerate" = none) (ka : PA X [e] ta) (ks : starEach [e] X.env = [(false, eval e X.env)] := by rfl) :
    PI X (.Tuple elts kk tpos) (.Call (.Name "enumerate" p) [e] [] pos) (iEnumT X.K ta) := by
  refine ⟨fun pz s sg Hh R J h => ?_⟩
  refine Call_ (ld_blt J kg km boot_enumerate (PyProof.Rows.callWith_type1 (thn (ka.run pos pz s sg Hh _ J h) fun us s1 ⟨vs, H1, J1, r1, qz1⟩ => ?_) ks rfl))
  obtain ⟨a, xs, ex, kq, qz⟩ := qz1
  subst ex
  cases r1 with
  | cons r rr =>
    cases rr
    cases r
    obtain ⟨vz, rw1, p', kz⟩ := J1.tuple kq
    have hal : a < s1.heap.objs.size := p'.lt
    refine call_enum1 (begins_tuple a vz.toArray) p' fun h' ke kit ksz kk => wpAny_pyIter_enum ke ?_
    have J2 : Inv X pz sg H1 { s1 with heap := h' } := J1.kept (t' := s1.toks) kk
    refine ⟨s1.heap.objs.size + 1, [s1.heap.objs.size + 1, s1.heap.objs.size], _, _, H1, rfl, J2, turn_enumT a (s1.heap.objs.size + 1) s1.heap.objs.size, ⟨⟨.none, ke⟩, ⟨_, kit, rfl, rfl⟩, Nat.succ_ne_self _, Nat.ne_of_lt (Nat.lt_succ_of_lt hal), Nat.ne_of_lt hal⟩, fun b kb => ?_, qz⟩
    have ee : b = s1.heap.objs.size + 1 ∨ b = s1.heap.objs.size := by simpa using kb
    have kle : s1.heap.objs.size ≤ b := by
      rcases ee with z | z
      · subst z; exact Nat.le_succ _
      · rw [z]; exact Nat.le_refl _
    exact J1.fpOk kle (J1.hok.fresh kle)
theorem walk_enumT {K : PySem.W.Frag} {a : Addr} {xs : List V} : Walk (IteT K a) xs.length (fun Hh => SqT K Hh a xs) (YPair (fun i => some (.int (i : Nat))) (fun i => xs[i]?)) := by
  refine ⟨fun i _ hi qz => ⟨xs, xs[i], qz, by simp [hi]⟩, fun _ qz => ⟨xs, qz, Nat.le_refl _⟩, fun i Hh v H' _ qz y => ?_⟩
  obtain ⟨T, x, g1, g2, g3, g4⟩ := y
  exact ⟨T, .int (i : Nat), x, g1, g2, g3, rfl, g4 xs qz⟩
/-! ### C( *xs), C() by a positional promise -/
def tMakeS (K : PySem.W.Frag) (C : Addr) (sp : Sp) (Ez : XK) (te : TE) : TE := fun sg Hh Qz => te sg Hh fun y H1 => ∃ a xs, y = V.ref a ∧ (SqT K H1 a xs ∨ SqL K H1 a xs) ∧ ∀ x dx, H1 x = Option.none → H1 dx = Option.none → dx ≠ x →
  sp (V.ref x :: xs) (upd (upd H1 dx (.own x)) x (.ins C dx [])) (fun v H2 => v = .non ∧ Qz (.ref x) H2) Ez
section
variable {X : Cx} {CX : CXT} {k : Nat} {f C : Addr} {sp : Sp} {Ez : XK} {x : Str} {e : Expr} {te : TE} {p sp_ pos : Pos}
theorem pe_makeS (M : Mk X.K C f) (F : FnR X.prog X.w X.K X.mg X.base CX k f sp) (kr : Room (k + 1) X.A) (kg : Gl X x) (km : X.mg x = some (.ref C)) (kx : Passes CX X Ez) (ke : PE X e te) (kdb : (x == ("__debug__" : Str)) = false := by decide)
    (kst : starEach [.Starred e sp_] X.env = [(true, eval e X.env)] := by rfl) : PE X (.Call (.Name x p) [.Starred e sp_] [] pos) (tMakeS X.K C sp Ez te) := by
  refine ⟨fun pz s sg Hh Qz J h => ?_⟩
  refine wpAny_Call_Name_kw (ld_glob J kg km ?_ kdb)
  refine PySem.W.callWith_S (h₀ := X.base) J.ok.mod.kin M.kp (thn (ke.run pz s sg Hh _ J h) fun v s1 ⟨y, H1, J1, ry, a, xs, ey, kxs, qz⟩ => ?_) kst
  subst ey
  cases (show v = Value.ref a from ry)
  exact StX.star_any J1 kxs fun us s2 J2 rw1 => ⟨J2.kIn, StX.run_makeR M F kr kx J2 rw1 qz⟩
theorem pe_makeR0 (M : Mk X.K C f) (F : FnR X.prog X.w X.K X.mg X.base CX k f sp) (kr : Room (k + 1) X.A) (kg : Gl X x) (km : X.mg x = some (.ref C)) (kx : Passes CX X Ez) (kdb : (x == ("__debug__" : Str)) = false := by decide) :
    PE X (.Call (.Name x p) [] [] pos) (StX.tMakeR C sp Ez tNil) := by
  refine ⟨fun pz s sg Hh Qz J h => ?_⟩
  refine wpAny_Call_Name_kw (ld_glob J kg km ?_ kdb)
  exact PySem.W.callWith_K0 J.kIn M.kp (StX.run_makeR (us := []) M F kr kx J .nil h)
end
/-! ### f(e, ..) by a positional promise -/
section
variable {X : Cx} {CX : CXT} {k : Nat} {f : Addr} {sp : Sp} {Ez : XK} {x : Str} {e : Expr} {es : List Expr} {t : TA} {p pos : Pos}
theorem pe_callR (F : FnR X.prog X.w X.K X.mg X.base CX k f sp) (kr : Room k X.A) (kg : Gl X x) (km : X.mg x = some (.ref f)) (kk : PySem.W.keepIn X.K (.ref f) = true) (kx : Passes CX X Ez) (ka : PA X (e :: es) t) (kdb : (x == ("__debug__" : Str)) = false := by decide)
    (ke : starEach (e :: es) X.env = (false, eval e X.env) :: starEach es X.env := by rfl) (kpl : (backTo pos (starEach es X.env)).any (·.1) = false := by rfl) :
    PE X (.Call (.Name x p) (e :: es) [] pos) (fun sg Hh Qz => t sg Hh fun vs H1 => sp vs H1 Qz Ez) := by
  refine ⟨fun pz s sg Hh Qz J h => ?_⟩
  refine wpAny_Call_Name_kw (ld_glob J kg km ?_ kdb)
  refine PySem.W.callWith_K (h₀ := X.base) J.ok.mod.kin kk (thn (ka.run pos pz s sg Hh _ J h) fun us s1 ⟨vs, H1, J1, r, qz⟩ => ⟨J1.kIn, ?_⟩) ke kpl
  exact wpAny_call (run_fnR F kr kx J1 r qz)
end
/-- a def of the module as a callee: where it is, that it is kept, vz promise -/
structure Dn (P : Program) (w : World) (K : PySem.W.Frag) (mg : Str → Option Value) (base : Heap) (k : Nat) (x : Str) (f : Addr) (sp : Sp) : Prop where
  at_ : mg x = some (.ref f)
  kp : PySem.W.keepIn K (Value.ref f) = true
  ok : FnR P w K mg base CX0 k f sp
/-! ### *steps: the tuple that a call lays is locked -/
section
variable {CX : CXT} {P : Program} {w : World} {K : PySem.W.Frag} {mg : Str → Option Value} {base : Heap} {k : Nat} {f : Addr} {name qual : Str} {params : Arguments} {body : List Stmt} {scope : Scope} {dV kV doc pm cdv ct oc : Value} {an od : Option Addr} {osl : Array (Option Value)} {N ps : List Str} {sp : Sp} {pv : Str}
theorem fn_starZ (lk : K.lookup f = some ⟨oc, od, .func (PySem.W.fnOf name qual params body scope dV kV doc pm an cdv ct), osl⟩) (hcd : PySem.W.codeIn K cdv qual = true) (S : FnScope N (ps ++ [pv]) scope) (hCX : StX.CXUp CX)
    (hb : ∀ us rest : List Value, us.length = ps.length → bindArgs (PySem.W.fnOf name qual params body scope dV kV doc pm an cdv ct) ⟨us ++ rest, []⟩ = (newTuple rest >>= fun t => pure (ps.zip us ++ [(pv, t)]))) (hy : ∀ (A : Around) (outer : List Env) (s : Shared) (H : Hp) (vs : List V) (Q : VK) (E : XK), Room k (A.deeper (envOfC qual scope s.heap.objs.size f cdv)) → sp vs H Q E → ∃ t, PSs (cxOf CX P w K mg base N qual scope f cdv A outer s H E) body t ∧ t { nx := fun _ H' => Q .non H', rt := Q } (L2.start N vs) H) :
    FnR P w K mg base CX (k + 1) f (fun vs H Q E => ∃ ws rest, vs = ws ++ rest ∧ ws.length = ps.length ∧ rest.length ≤ sizeLine ∧ ∀ (p : Addr) (ob : Obj), H p = Option.none → ob.dict = Option.none → sp (ws ++ [V.ref p]) (upd H p (.frz ob (.tup rest))) Q E) := by
  rintro A outer s H us vs Q E hr e0 r ⟨ws, rest, rfl, hl, hz, hq⟩
  obtain ⟨u1, u2, rfl, r1, r2⟩ := StX.vals_split r
  have hn : H s.heap.objs.size = Option.none := e0.hok.fresh (Nat.le_refl _); have l1 : u1.length = ps.length := r1.length.symm.trans hl
  have l2 : u2.length ≤ sizeLine := (by rw [← r2.length]; exact hz)
  refine StX.run_bnd lk hcd S hr e0 (G := fun xs H2 => ∃ (p : Addr) (ob : Obj), H p = Option.none ∧ ob.dict = Option.none ∧ xs = ws ++ [V.ref p] ∧ H2 = upd H p (.frz ob (.tup rest))) (fun A' Ex Q' h => ?_) fun s2 H2 xs ⟨p, ob, hp, hd, ex, eH⟩ hr' => ?_
  · rw [hb u1 u2 l1]
    refine wpAny_bind (wpAny_newTuple (wpAny_pure ?_) l2)
    have at_ : (s.heap.push ({ cls := .type "tuple", data := .seq u2.toArray } : Obj)).get? s.heap.objs.size = some { cls := .type "tuple", data := .seq u2.toArray } := Heap.get?_push_size _ rfl
    have new : ObjOk P w (upd H s.heap.objs.size (.frz { cls := .type "tuple", data := .seq u2.toArray } (.tup rest))) (s.heap.push ({ cls := .type "tuple", data := .seq u2.toArray } : Obj)) s.heap.objs.size (.frz { cls := .type "tuple", data := .seq u2.toArray } (.tup rest)) :=
      ⟨at_, hz, u2, r2, ⟨_, at_, rfl, _, rfl⟩⟩
    have un := StX.un_laid (fs := frs outer) (s := s) (o := ({ cls := .type "tuple", data := .seq u2.toArray } : Obj)) (u := .frz { cls := .type "tuple", data := .seq u2.toArray } (.tup rest)) hn
    have z := h _ _ (ws ++ [V.ref s.heap.objs.size]) (u1 ++ [Value.ref s.heap.objs.size]) (StX.env0_laid e0 new) un rfl (fun e s' => hCX outer s H _ _ E e s' un (fun b o q => Heap.get?_push_of_some _ q) rfl) (r1.append (.cons rfl .nil))
      (by rw [List.length_append, List.length_append, hl] <;> rfl) ⟨_, { cls := .type "tuple", data := .seq u2.toArray }, hn, rfl, rfl, rfl⟩
    rw [List.zip_append l1.symm] at z
    exact z
  · subst ex eH
    exact hy A outer s2 _ _ Q E hr' (hq p ob hp hd)
end
end Cc

/-! The data (steps, plans, the drawing's state over the heap) and the mathematics. -/
namespace Cc
open PySem PySem.Spec PyProof.Rows L2
/-! ### steps -/
inductive Stp where
  | turn
  | meet (red : Bool) (n : Int)
def roomS (b : Bool) : Str := if b then "red" else "blue"
def stpV : Stp → List V
  | .turn => [.str "turn"]
  | .meet b n => [.str (roomS b), .int n]
def Stp.ok (c : Int) : Stp → Prop
  | .turn => True
  | .meet _ n => 0 ≤ n ∧ n ≤ c
theorem Stp.ok.mono {s : Stp} {c d : Int} (h : s.ok c) (hd : c ≤ d) : s.ok d := by
  cases s with
  | turn => trivial
  | meet b n => exact ⟨h.1, Int.le_trans h.2 hd⟩
def mx (i j : Int) : Int := if j > i then j else i
theorem mx_eq (i j : Int) : mx i j = max i j := by unfold mx; omega
/-- what a step leaves in the red room, and carries: the code's own way -/
def stepF (c : Int) (s : Stp) (r : Int) : Int × Int := match s with
  | .turn => (c - r, 0)
  | .meet true n => (r + mx 0 (n - r), mx 0 (n - r))
  | .meet false n => (r - mx 0 (n - (c - r)), mx 0 (n - (c - r)))
/-- steps: the red room, the sum -/
def stepsF (c : Int) : List Stp → Int × Int → Int × Int
  | [], x => x
  | s :: ss, x => stepsF c ss ((stepF c s x.1).1, x.2 + (stepF c s x.1).2)
theorem stepsF_app (c : Int) : ∀ (a b : List Stp) (x : Int × Int), stepsF c (a ++ b) x = stepsF c b (stepsF c a x)
  | [], _, _ => rfl
  | s :: a, b, x => by
    show stepsF c (a ++ b) _ = stepsF c b (stepsF c a _)
    exact stepsF_app c a b _
theorem stepsF_one (c : Int) (a : List Stp) (s : Stp) (x : Int × Int) : stepsF c (a ++ [s]) x = ((stepF c s (stepsF c a x).1).1, (stepsF c a x).2 + (stepF c s (stepsF c a x).1).2) := by
  rw [stepsF_app]
  rfl
theorem stepsF_add (c : Int) : ∀ (a : List Stp) (r t : Int), stepsF c a (r, t) = ((stepsF c a (r, 0)).1, t + (stepsF c a (r, 0)).2)
  | [], r, t => by simp [stepsF]
  | s :: a, r, t => by
    show stepsF c a _ = ((stepsF c a _).1, t + (stepsF c a _).2)
    rw [stepsF_add c a (stepF c s r).1 (t + (stepF c s r).2), stepsF_add c a (stepF c s r).1 (0 + (stepF c s r).2)]
    simp only [Prod.mk.injEq, true_and]
    omega
theorem take_more {α : Type} : ∀ {l : List α} {i : Nat} {x : α}, l[i]? = some x → l.take (i + 1) = l.take i ++ [x]
  | [], i, x, h => by simp at h
  | a :: l, 0, x, h => by
    have e : a = x := Option.some.inj h
    subst e
    rfl
  | a :: l, i + 1, x, h => by
    have ih := take_more (l := l) (i := i) (x := x) h
    show a :: l.take (i + 1) = a :: l.take i ++ [x]
    rw [ih]
    rfl
/-- the red room stays within the house -/
theorem stepF_in {c : Int} {s : Stp} {r : Int} (hs : s.ok c) (h0 : 0 ≤ r) (h1 : r ≤ c) : 0 ≤ (stepF c s r).1 ∧ (stepF c s r).1 ≤ c ∧ 0 ≤ (stepF c s r).2 ∧ (stepF c s r).2 ≤ c := by
  cases s with
  | turn => simp only [stepF]; omega
  | meet b n =>
    obtain ⟨h2, h3⟩ := hs
    cases b <;> simp only [stepF, mx] <;> split <;> omega
theorem stepsF_in {c : Int} : ∀ {ss : List Stp} {r t : Int}, (∀ s ∈ ss, s.ok c) → 0 ≤ r → r ≤ c → 0 ≤ t → 0 ≤ (stepsF c ss (r, t)).1 ∧ (stepsF c ss (r, t)).1 ≤ c ∧ 0 ≤ (stepsF c ss (r, t)).2
  | [], r, t, _, h0, h1, ht => ⟨h0, h1, ht⟩
  | s :: ss, r, t, hs, h0, h1, ht => by
    obtain ⟨a, b, d, _⟩ := stepF_in (hs s List.mem_cons_self) h0 h1
    exact stepsF_in (ss := ss) (fun x hx => hs x (List.mem_cons_of_mem _ hx)) a b (by show 0 ≤ t + (stepF c s r).2; omega)
/-- rounds -/
def roundsF (c : Int) (ss : List Stp) : Nat → Int × Int → Int × Int
  | 0, x => x
  | n + 1, x => roundsF c ss n (stepsF c ss x)
theorem roundsF_succ (c : Int) (ss : List Stp) : ∀ (n : Nat) (x : Int × Int), roundsF c ss (n + 1) x = stepsF c ss (roundsF c ss n x)
  | 0, x => rfl
  | n + 1, x => by
    show roundsF c ss (n + 1) (stepsF c ss x) = _
    rw [roundsF_succ c ss n (stepsF c ss x)]
    rfl
theorem roundsF_in {c : Int} {ss : List Stp} (hs : ∀ s ∈ ss, s.ok c) : ∀ {n : Nat} {r t : Int}, 0 ≤ r → r ≤ c → 0 ≤ t → 0 ≤ (roundsF c ss n (r, t)).1 ∧ (roundsF c ss n (r, t)).1 ≤ c ∧ 0 ≤ (roundsF c ss n (r, t)).2
  | 0, r, t, h0, h1, ht => ⟨h0, h1, ht⟩
  | n + 1, r, t, h0, h1, ht => by
    rw [roundsF_succ]
    obtain ⟨a, b, d⟩ := roundsF_in hs (n := n) h0 h1 ht
    exact stepsF_in hs a b d
/-- behind n rounds -/
def afterF (c : Int) (ss : List Stp) (r : Int) (n : Nat) : Int × Int := roundsF c ss n (r, 0)

/-! ### steps over the heap -/
def StepAt (H : Hp) (v : V) (s : Stp) : Prop := ∃ t, v = .ref t ∧ H t = some (.tup (stpV s))
def Steps (H : Hp) (vs : List V) (ss : List Stp) : Prop := Paired (StepAt H) vs ss
theorem Steps.get {H : Hp} : ∀ {vs : List V} {ss : List Stp} {i : Nat} {v : V}, Steps H vs ss → vs[i]? = some v → ∃ s, ss[i]? = some s ∧ StepAt H v s
  | [], [], i, v, .nil, e => by simp at e
  | _, _, 0, v, .cons r _, e => by
    have e' : _ = v := Option.some.inj e
    subst e'
    exact ⟨_, rfl, r⟩
  | _, _, i + 1, v, .cons _ t, e => by
    obtain ⟨s, h1, h2⟩ := Steps.get (i := i) (v := v) t e
    exact ⟨s, h1, h2⟩
theorem Steps.length {H : Hp} {vs : List V} {ss : List Stp} (h : Steps H vs ss) : vs.length = ss.length := Paired.length h
theorem Steps.append {H : Hp} : ∀ {vs ws : List V} {ss us : List Stp}, Steps H vs ss → Steps H ws us → Steps H (vs ++ ws) (ss ++ us)
  | _, _, _, _, .nil, b => b
  | _, _, _, _, .cons r t, b => .cons r (Steps.append t b)
theorem Steps.mono {H H' : Hp} {vs : List V} {ss : List Stp} (h : Steps H vs ss) (k : ∀ t xs, H t = some (.tup xs) → H' t = some (.tup xs)) : Steps H' vs ss :=
  Paired.mapP h fun _ _ ⟨t, e, q⟩ => ⟨t, e, k t _ q⟩
theorem Steps.same {H H' : Hp} {vs : List V} {ss : List Stp} (h : Steps H vs ss) (k : Same H H') : Steps H' vs ss := h.mono fun t xs e => k t _ e
theorem Steps.get2 {H : Hp} {vs : List V} {ss : List Stp} (h : Steps H vs ss) {i : Nat} {s : Stp} (e : ss[i]? = some s) : ∃ v, vs[i]? = some v ∧ StepAt H v s := by
  have hi : i < vs.length := by rw [h.length]; exact (List.getElem?_eq_some_iff.mp e).1
  obtain ⟨s', h1, h2⟩ := h.get (List.getElem?_eq_getElem hi)
  rw [e] at h1
  cases h1
  exact ⟨_, List.getElem?_eq_getElem hi, h2⟩
/-- a tuple that is locked and has no dict of its own -/
def TupP (H : Hp) (tp : Addr) (ws : List V) : Prop := ∃ o : Obj, o.dict = none ∧ H tp = some (.frz o (.tup ws))
theorem TupP.same {H H' : Hp} {tp : Addr} {ws : List V} (h : TupP H tp ws) (k : Same H H') : TupP H' tp ws :=
  let ⟨o, d, e⟩ := h
  ⟨o, d, k _ _ e⟩
theorem TupP.sq {K : PySem.W.Frag} {H : Hp} {tp : Addr} {ws : List V} (h : TupP H tp ws) : SqT K H tp ws :=
  let ⟨o, _, e⟩ := h
  .inl (.inr ⟨o, e⟩)
theorem TupP.ne {H : Hp} {tp l : Addr} {ws : List V} (h : TupP H tp ws) (hl : H l = none) : tp ≠ l := fun z => by
  obtain ⟨o, _, e⟩ := h
  rw [z, hl] at e
  cases e
/-- a plan -/
def PlanAt (C : Addr) (H : Hp) (p : Addr) (ss : List Stp) : Prop := ∃ dx tp ws, H p = some (.ins C dx [("step_tuple", .ref tp)]) ∧ TupP H tp ws ∧ Steps H ws ss
theorem PlanAt.same {C : Addr} {H H' : Hp} {p : Addr} {ss : List Stp} (h : PlanAt C H p ss) (k : Same H H') : PlanAt C H' p ss :=
  let ⟨dx, tp, ws, a, b, d⟩ := h
  ⟨dx, tp, ws, k _ _ a, b.same k, d.same k⟩
/-- all but what stands at s is as it was -/
def But (s : Addr) (H H' : Hp) : Prop := ∀ b o, b ≠ s → H b = some o → H' b = some o
theorem But.refl (s : Addr) (H : Hp) : But s H H := fun _ _ _ e => e
theorem But.trans {s : Addr} {H H1 H2 : Hp} (a : But s H H1) (b : But s H1 H2) : But s H H2 := fun c o n e => b c o n (a c o n e)
theorem But.of {s : Addr} {H H' : Hp} (a : Same H H') : But s H H' := fun c o _ e => a c o e
/-- a list that nobody writes: locked, or of the written part -/
def SqF (K : PySem.W.Frag) (H : Hp) (a : Addr) (xs : List V) : Prop := (∃ o, H a = some (.frz o (.lst xs))) ∨ SqL K (fun _ => none) a xs
theorem SqF.sq {K : PySem.W.Frag} {H : Hp} {a : Addr} {xs : List V} (h : SqF K H a xs) : SqL K H a xs := by
  rcases h with h | ((h | ⟨o, h⟩) | h)
  · exact .inl (.inr h)
  · cases h
  · cases h
  · exact .inr h
theorem SqF.keep {K : PySem.W.Frag} {H H' : Hp} {a : Addr} {xs : List V} (h : SqF K H a xs) (k : ∀ b o u, H b = some (.frz o u) → H' b = some (.frz o u)) : SqF K H' a xs := by
  rcases h with ⟨o, h⟩ | h
  · exact .inl ⟨o, k _ _ _ h⟩
  · exact .inr h
theorem sqF_of {K : PySem.W.Frag} {H : Hp} {a : Addr} {xs : List V} (h : SqL K H a xs) (o : Only H) : SqF K H a xs := by
  rcases h with (h | h) | h
  · rcases o a with q | ⟨ob, ys, q⟩
    · rw [q] at h
      cases h
    · rw [q] at h
      cases h
  · exact .inl h
  · exact .inr (.inr h)
/-- the drawing's state: a list of the script, a place, two numbers -/
def DrawAt (K : PySem.W.Frag) (H : Hp) (s : Addr) : Prop := ∃ (a : Addr) (ns : List Int) (p x y : Int), H s = some (.lst [.ref a, .int p, .int x, .int y]) ∧ SqF K H a (ns.map V.int) ∧ ns.length ≤ 63 ∧ 0 ≤ p
theorem DrawAt.lst {K : PySem.W.Frag} {H : Hp} {s : Addr} (h : DrawAt K H s) : ∃ xs, H s = some (.lst xs) := let ⟨_, _, _, _, _, e, _⟩ := h; ⟨_, e⟩
theorem DrawAt.same {K : PySem.W.Frag} {H H' : Hp} {s : Addr} (h : DrawAt K H s) (k : Same H H') : DrawAt K H' s :=
  let ⟨a, ns, p, x, y, e, q, l, z⟩ := h
  ⟨a, ns, p, x, y, k _ _ e, q.keep fun b o u e => k b _ e, l, z⟩
/-- .. a list changed elsewhere -/
theorem DrawAt.but {K : PySem.W.Frag} {H H' : Hp} {s l : Addr} (h : DrawAt K H s) (k : But l H H') (hl : ∃ xs, H l = some (.lst xs)) (n : s ≠ l) : DrawAt K H' s :=
  let ⟨a, ns, p, x, y, e, q, z⟩ := h
  ⟨a, ns, p, x, y, k _ _ n e, q.keep fun b o u e => k b _ (let ⟨_, e2⟩ := hl; ne_of e e2 (fun q => nomatch q)) e, z⟩
theorem Steps.but {H H' : Hp} {s : Addr} {vs : List V} {ss : List Stp} (h : Steps H vs ss) (k : But s H H') (hs : ∃ xs, H s = some (.lst xs)) : Steps H' vs ss :=
  h.mono fun t xs e => k t _ (let ⟨_, e2⟩ := hs; ne_of e e2 (fun q => nomatch q)) e
theorem PlanAt.but {C : Addr} {H H' : Hp} {p s : Addr} {ss : List Stp} (h : PlanAt C H p ss) (k : But s H H') (hs : ∃ xs, H s = some (.lst xs)) : PlanAt C H' p ss := by
  obtain ⟨dx, tp, ws, a, b, d⟩ := h
  obtain ⟨ys, e2⟩ := id hs
  obtain ⟨o, d0, b'⟩ := b
  exact ⟨dx, tp, ws, k _ _ (ne_of a e2 (fun q => nomatch q)) a, ⟨o, d0, k _ _ (ne_of b' e2 (fun q => nomatch q)) b'⟩, d.but k hs⟩
theorem TupP.but {s : Addr} {H H' : Hp} {tp : Addr} {ws : List V} (h : TupP H tp ws) (k : But s H H') (n : tp ≠ s) : TupP H' tp ws :=
  let ⟨o, d, e⟩ := h
  ⟨o, d, k _ _ n e⟩
theorem same_upd {H : Hp} {p : Addr} {o : HO} (h : H p = none) : Same H (upd H p o) := fun b u e => by
  rw [upd_ne (ne_of_none e h)]
  exact e
theorem but_upd {H : Hp} {p : Addr} {o : HO} : But p H (upd H p o) := fun b u n e => by
  rw [upd_ne n]
  exact e
theorem lk_self {f : Str} {v : V} : List.lookup f [(f, v)] = some v := by simp [List.lookup]
theorem lk_no {f g : Str} {v : V} (h : ¬ (f == g) = true) : List.lookup f [(g, v)] = none := by
  have e : (f == g) = false := by simpa using h
  simp [List.lookup, e]
theorem room_eq (b : Bool) : decide (V.str (roomS b) = V.str "red") = b := by
  cases b <;> decide +kernel
theorem eqv_turn : PyData.eqv (.tuple [.str "turn"]) (.tuple [.str "turn"]) = true := by decide +kernel
theorem eqv_meet (b : Bool) (n : Int) : PyData.eqv (.tuple [.str (roomS b), .int n]) (.tuple [.str "turn"]) = false := by
  cases b <;> simp [PyData.eqv, PyData.eqvAll, roomS]
theorem shaped_meet (b : Bool) (n : Int) : SeqAt.shaped (.tuple [.str (roomS b), .int n]) = true := by
  have h1 : PyData.strOk (roomS b) = true := by cases b <;> decide +kernel
  simp [SeqAt.shaped, PyData.canLay0, PyData.canLayAll0, PyData.depth, PyData.depthAll, h1]
end Cc

namespace Cc
open PySem PySem.Spec PyProof.Rows L2
/-! ### the text by places -/
def top (i : Nat) : Stmt := PySem.Challenge.pw_chaircarry_k42_whole_texts_of_bookings.main.body.getD i (.Pass ⟨0, 0, 0, 0⟩)
abbrev sIsNum : Stmt := top 14
abbrev sIsWhole : Stmt := top 13
abbrev sIsStep : Stmt := top 17
abbrev sInit : Stmt := inClass (top 18) 2
abbrev sSteps : Stmt := inClass (top 18) 4
abbrev sJoined : Stmt := inClass (top 18) 6
/-! ### promises -/
def spIsWhole : Sp := fun vs H Q _ => ∃ v : Int, vs = [.int v] ∧ Q (.bl true) H
def spIsNum : Sp := fun vs H Q _ => ∃ (v a b : Int), vs = [.int v, .int a, .int b] ∧ Q (.bl (decide (a ≤ v ∧ v ≤ b))) H
def spChkNum : Sp := fun vs H Q _ => ∃ (v a b : Int), vs = [.int v, .int a, .int b] ∧ a ≤ v ∧ v ≤ b ∧ Q .non H
def spChkHouse (C : Addr) : Sp := fun vs H Q _ => ∃ (p : Addr) (c : Int) (ss : List Stp), vs = [.ref p, .int c] ∧ PlanAt C H p ss ∧ 0 ≤ c ∧ c ≤ 1000000000000000000 ∧ (∀ s ∈ ss, s.ok c) ∧ ss.length ≤ 60 ∧ ∀ H', Same H H' → Q .non H'
def spIsStep : Sp := fun vs H Q _ => ∃ (v : V) (s : Stp), vs = [v] ∧ StepAt H v s ∧ s.ok 1000000000000000000 ∧ ∀ H', Same H H' → Q (.bl true) H'
def spInitS (C : Addr) : Sp := fun vs H Q _ => ∃ (x tp dx : Addr) (ws : List V) (ss : List Stp), vs = [.ref x, .ref tp] ∧ H x = some (.ins C dx []) ∧ TupP H tp ws ∧ Steps H ws ss ∧ ss.length ≤ 60 ∧ (∀ s ∈ ss, s.ok 1000000000000000000) ∧
  ∀ H', But x H H' → H' x = some (.ins C dx [("step_tuple", .ref tp)]) → Q .non H'
/-- Plan.__init__ by positional values -/
def spInit (C : Addr) : Sp := fun vs H Q _ => ∃ (x dx : Addr) (ws : List V) (ss : List Stp), vs = .ref x :: ws ∧ H x = some (.ins C dx []) ∧ Steps H ws ss ∧ ss.length ≤ 60 ∧ (∀ s ∈ ss, s.ok 1000000000000000000) ∧
  ∀ H' tp, But x H H' → H' x = some (.ins C dx [("step_tuple", .ref tp)]) → TupP H' tp ws → Q .non H'
def spJoinedS (C : Addr) : Sp := fun vs H Q _ => ∃ (x tp : Addr) (ss : List Stp) (o : Addr) (us : List Stp), vs = [.ref x, .ref tp] ∧ PlanAt C H x ss ∧ H tp = some (.tup [.ref o]) ∧ PlanAt C H o us ∧ (ss ++ us).length ≤ 60 ∧ (∀ s ∈ ss ++ us, s.ok 1000000000000000000) ∧
  ∀ p H', Same H H' → PlanAt C H' p (ss ++ us) → Q (.ref p) H'
def spJoined (C : Addr) : Sp := fun vs H Q _ => ∃ (x : Addr) (ss : List Stp) (o : Addr) (us : List Stp), vs = [.ref x, .ref o] ∧ PlanAt C H x ss ∧ PlanAt C H o us ∧ (ss ++ us).length ≤ 60 ∧ (∀ s ∈ ss ++ us, s.ok 1000000000000000000) ∧
  ∀ p H', Same H H' → PlanAt C H' p (ss ++ us) → Q (.ref p) H'
/-- a def that calls none of the program's: it wants no room of its own -/
theorem fn_low {P : Program} {w : World} {K : PySem.W.Frag} {mg : Str → Option Value} {base : Heap} {x qual : Str} {st : Stmt} {f : Addr} {fd : FuncData} {N ps : List Str} {sp : Sp} (F : Fun K x qual st f fd) (S : FnScope N ps (defScope st)) (len : ∀ vs H Q E, sp vs H Q E → vs.length = ps.length)
    (hb : ∀ (cdv : Value) (A : Around) (outer : List Env) (s : Shared) (H : Hp) (vs : List V) (Q : VK) (E : XK), sp vs H Q E → ∃ t, PSs (cxOf CX0 P w K mg base N qual (defScope st) f cdv A outer s H E).nox (defBody st) t ∧ t { nx := fun _ H' => Q .non H', rt := Q } (start N vs) H) : FnOk P w K mg base CX0 0 f fd ps sp := by
  obtain ⟨oc, od, kV, dc, pm, an, cdv, ct, osl, rfl, lk, hcd⟩ := F.ex
  refine ⟨len, fun A outer s H args us vs Q E hr e0 hbd r hsp => ?_⟩
  have hl := len _ _ _ _ hsp
  have KX : K.In s.heap := e0.mod.kin.keeps (fun b o e => (e0.bs b o e).1)
  have lim := e0.mod.nolimit.keeps (fun b o e => (e0.bs b o e).1)
  have hk : ∀ y ∈ ps.zip us, (defScope st).names.lookup y.1 = some .local ∨ ((defScope st).names.lookup y.1 = some .cell ∧ ((cellsFrom (s.heap.objs.size + 1) (defScope st).names []).lookup y.1).isSome = true) := by
    rintro ⟨n, v⟩ hy
    exact (S.par n (List.of_mem_zip hy).1).imp id fun q => ⟨q, PySem.W.cellsFrom_some _ _ _ (.inl q)⟩
  refine codeAny_call_function hr.depth (KX _ _ lk) rfl S.co S.gen rfl (PySem.W.codeRec_of KX hcd) (hbd _ _ _ _ (wpAny_newFunctionEnv_cells S.kind hk fun env he s1 x => ?_))
  subst he
  obtain ⟨t, ht, hq⟩ := hb cdv A outer s H vs Q E hsp
  refine ⟨lim.keeps (x.toInCall.keep), codeAny_func ?_⟩
  have I : Inv (cxOf CX0 P w K mg base N qual (defScope st) f cdv A outer s H E) [] (start N vs) H s1 := inv_start S hr.hd e0 hl r x
  refine wpAny_mono (ht.nox.run [] s1 (start N vs) H _ I hq) (fun fl s' hs => ?_) fun e s' hs => hs
  match fl, hs with
  | .ret u, ⟨v, σ', H', J, rv, q⟩ => exact ⟨v, H', J.os, J.bare, J.base, J.hok, rv, q⟩
  | .next, ⟨σ', H', J, q⟩ => exact ⟨.non, H', J.os, J.bare, J.base, J.hok, rfl, q⟩
  | .brk, ⟨_, _, _, q⟩ => exact q.elim
  | .cont, ⟨_, _, _, q⟩ => exact q.elim
/-! ### what the top has written -/
structure Bt (mg : Str → Option Value) : Prop where
  isinstance : mg "isinstance" = none
  int : mg "int" = none
  bool : mg "bool" = none
  tuple : mg "tuple" = none
  list : mg "list" = none
  len : mg "len" = none
  max : mg "max" = none
  min : mg "min" = none
  abs : mg "abs" = none
  enumerate : mg "enumerate" = none
  range : mg "range" = none
  sum : mg "sum" = none
  sorted : mg "sorted" = none
  divmod : mg "divmod" = none
  zip : mg "zip" = none
  str : mg "str" = none
  dict : mg "dict" = none
  verr : mg "ValueError" = none
  any : mg "any" = none
structure Txt (K : PySem.W.Frag) (mg : Str → Option Value) (C TU pS gS : Addr) (mc : Value) : Prop where
  b : Bt mg
  cl : Cls K C
  nS : NoAttr K C "step_tuple"
  gP : mg "Plan" = some (.ref C)
  rd : ClX.CRead K C mc
  cs : ∃ u, ClX.CVal K C mc "MAX_STEPS" (.int 60) u
  cc : ∃ u, ClX.CVal K C mc "MAX_CHAIRS" (.int 1000000000000000000) u
  con : ∃ u, Con K C "MAX_CHAIRS" (.int 1000000000000000000) u
  gT : mg "TURN" = some (.ref TU)
  tT : ∀ H, SqT K H TU [.str "turn"]
  pr : PropOf K C "steps" pS gS
section
variable {P : Program} {w : World} {K : PySem.W.Frag} {mg : Str → Option Value} {base : Heap} {C TU pS gS : Addr} {mc : Value}
/-! ### checks -/
theorem scIsWhole : FnScope ["value"] ["value"] (defScope sIsWhole) := ⟨rfl, rfl, rfl, by decide +kernel, rfl, by decide +kernel, by decide +kernel⟩
theorem ok_iswhole {f : Addr} {fd : FuncData} (F : Fun K "is_whole" "is_whole" sIsWhole f fd) (B : Bt mg) : FnOk P w K mg base CX0 0 f fd ["value"] spIsWhole := by
  refine fn_low F scIsWhole (fun vs H Q E h => ?_) (fun cdv A outer s H vs Q E h => ?_)
  · obtain ⟨v, rfl, _⟩ := h
    rfl
  · obtain ⟨v, rfl, k⟩ := h
    refine ⟨_, pss_one (ps_ret (pe_and (pe_callB call_isi (by rfl) B.isinstance (by decide +kernel) (pa_cons (pv 0) (pa_cons (pe_bltn (v := .ty "int") (by rfl) B.int (by decide +kernel) rfl) pa_nil)))
      (pe_one (pe_not (pe_callB call_isi (by rfl) B.isinstance (by decide +kernel) (pa_cons (pv 0) (pa_cons (pe_bltn (v := .ty "bool") (by rfl) B.bool (by decide +kernel) rfl) pa_nil))))))), ?_⟩
    refine ⟨_, rfl, _, _, _, _, true, rfl, .ty "int", .base (.int v), kit_ty (by decide +kernel), true, rfl, ?_⟩
    exact iteT ⟨_, rfl, _, _, _, _, false, rfl, .ty "bool", .base (.int v), kit_ty (by decide +kernel), false, rfl, k⟩
theorem scIsNum : FnScope ["value", "least", "most"] ["value", "least", "most"] (defScope sIsNum) := ⟨rfl, rfl, rfl, by decide +kernel, rfl, by decide +kernel, by decide +kernel⟩
theorem ok_isnum {f fW : Addr} {fd : FuncData} (F : Fun K "is_number" "is_number" sIsNum f fd) (W : Dn P w K mg base 0 "is_whole" fW spIsWhole) : FnOk P w K mg base CX0 1 f fd ["value", "least", "most"] spIsNum := by
  refine F.ok scIsNum (fun vs H Q E h => ?_) (fun cdv A outer s H vs Q E hr h => ?_)
  · obtain ⟨v, a, b, rfl, _⟩ := h
    rfl
  · obtain ⟨v, a, b, rfl, k⟩ := h
    refine ⟨_, pss_one (ps_ret (pe_and (pe_callR W.ok hr rfl W.at_ W.kp pass0 (pa_cons (pv 0) pa_nil))
      (pe_one (pe_chain op_le op_le (pv 1) (pv 0) (pv 2))))), ?_⟩
    refine ⟨_, rfl, v, rfl, true, rfl, ?_⟩
    refine iteT ⟨_, rfl, _, rfl, _, _, rfl, rfl, _, rfl, ?_⟩
    by_cases c : a ≤ v
    · rw [decide_eq_true c]
      refine iteT ⟨_, rfl, _, _, rfl, rfl, ?_⟩
      have e : decide (v ≤ b) = decide (a ≤ v ∧ v ≤ b) := by simp [c]
      show Q (V.bl (decide (v ≤ b))) H
      rw [e]
      exact k
    · rw [if_neg (by simp [c])]
      have e : (false : Bool) = decide (a ≤ v ∧ v ≤ b) := by simp [c]
      show Q (V.bl false) H
      rw [e]
      exact k
theorem scSteps : FnScope ["self"] ["self"] (defScope sSteps) := ⟨rfl, rfl, rfl, by decide +kernel, rfl, by decide +kernel, by decide +kernel⟩
theorem ok_steps {f : Addr} {fd : FuncData} (F : Fun K "steps" "Plan.steps" sSteps f fd) (T : Txt K mg C TU pS gS mc) : FnOk P w K mg base CX0 1 f fd ["self"] (getSp C "step_tuple") := by
  refine F.ok scSteps (fun vs H Q E h => ?_) (fun cdv A outer s H vs Q E hr h => ?_)
  · obtain ⟨a, dx, fs, v, rfl, _⟩ := h
    rfl
  · obtain ⟨a, dx, fs, v, rfl, h1, h2, k⟩ := h
    exact ⟨_, pss_one (ps_ret (pe_fld (pv 0) rfl)), _, rfl, a, C, dx, fs, v, rfl, h1, T.cl, T.nS, h2, k⟩
/-- e.steps, e a plan -/
structure Gs (P : Program) (w : World) (K : PySem.W.Frag) (mg : Str → Option Value) (base : Heap) (C gS : Addr) (fd : FuncData) : Prop where
  ok : FnOk P w K mg base CX0 1 gS fd ["self"] (getSp C "step_tuple")
  b : Binds K fd ["self"] []
theorem scIsStep : FnScope ["step"] ["step"] (defScope sIsStep) := ⟨rfl, rfl, rfl, by decide +kernel, rfl, by decide +kernel, by decide +kernel⟩
theorem ok_isstep {f fN : Addr} {fd : FuncData} (F : Fun K "is_step" "is_step" sIsStep f fd) (T : Txt K mg C TU pS gS mc) (N : Dn P w K mg base 1 "is_number" fN spIsNum) : FnOk P w K mg base CX0 2 f fd ["step"] spIsStep := by
  refine F.ok scIsStep (fun vs H Q E h => ?_) (fun cdv A outer s H vs Q E hr h => ?_)
  · obtain ⟨v, s, rfl, _⟩ := h
    rfl
  · obtain ⟨v, st, rfl, ⟨t, rfl, ht⟩, ok, k⟩ := h
    obtain ⟨u, hu⟩ := T.cc
    refine ⟨_, pss_cons (ps_if (pt_not (pt_val (pe_callB call_isi (by rfl) T.b.isinstance (by decide +kernel) (pa_cons (pv 0) (pa_cons (pe_bltn (v := .ty "tuple") (by rfl) T.b.tuple (by decide +kernel) rfl) pa_nil))))) (pss_one (ps_ret pe_bl)) pss_nil)
      (pss_cons (ps_if (pt_cmpR op_eq (pe_callB call_len (by rfl) T.b.len PySem.boot_len (pa_cons (pv 0) pa_nil)) pe_int (nomark _))
        (pss_one (ps_ret (pe_and (pe_cmpR op_in_seq (pe_ix ix_tup (pv 0) pe_int (fun _ _ => rfl)) (pe_tup (pa_cons pe_str (pa_cons pe_str pa_nil))) (by rfl))
          (pe_one (pe_callR N.ok hr rfl N.at_ N.kp pass0 (pa_cons (pe_ix ix_tup (pv 0) pe_int (fun _ _ => rfl)) (pa_cons pe_int (pa_cons (ClX.pe_cval (pe_glob (v := .ref C) rfl T.gP rfl)) pa_nil)))))))) pss_nil)
      (pss_one (ps_ret (pe_cmpR (op_eqD hr.units) (pv 0) (pe_glob (v := .ref TU) rfl T.gT rfl) (nomark _))))), ?_⟩
    refine ⟨_, rfl, _, _, _, _, true, rfl, .ty "tuple", .base (.tup ht), kit_ty (by decide +kernel), true, rfl, ?_⟩
    refine iteF ?_
    refine ⟨_, rfl, _, _, rfl, .inr ⟨_, SqT.of ht, rfl⟩, rfl, ?_⟩
    cases st with
    | turn =>
      refine ⟨_, rfl, iteF ?_⟩
      refine ⟨_, rfl, .tuple [.str "turn"], .tuple [.str "turn"], .tup (SqT.of ht) (.cons (.str _) .nil), .tup (T.tT _) (.cons (.str _) .nil), by decide +kernel, by decide +kernel, ?_⟩
      have e : PyData.eqv (.tuple [.str "turn"]) (.tuple [.str "turn"]) = true := by decide +kernel
      rw [e]
      exact k H (Same.refl H)
    | meet bb n =>
      refine ⟨_, rfl, iteT ?_⟩
      refine ⟨_, rfl, t, _, _, _, rfl, rfl, SqT.of ht, at_of (j := 0) rfl rfl, by show 2 ≤ sizeLine; decide, fun p hp => ?_⟩
      have s1 : Same H (upd H p (.tup [.str "red", .str "blue"])) := same_upd hp
      refine ⟨p, _, rfl, .inr (SqT.of upd_same), rfl, by decide, _, rfl, ?_⟩
      have e : inV (.str (roomS bb)) [.str "red", .str "blue"] = true := by cases bb <;> decide +kernel
      rw [e]
      refine iteT ⟨_, rfl, t, _, _, _, rfl, rfl, SqT.of (s1 _ _ ht), at_of (j := 1) rfl rfl, C, mc, _, u, rfl, T.rd, hu, n, 0, _, rfl, ?_⟩
      rw [decide_eq_true (show (0 : Int) ≤ n ∧ n ≤ 1000000000000000000 from ok)]
      exact k _ s1
theorem scInit : FnScope ["self", "steps", "index", "step"] ["self", "steps"] (defScope sInit) := ⟨rfl, rfl, rfl, by decide +kernel, rfl, by decide +kernel, by decide +kernel⟩
theorem ok_init {f fS : Addr} {fd : FuncData} (F : Fun K "__init__" "Plan.__init__" sInit f fd) (T : Txt K mg C TU pS gS mc) (N : Dn P w K mg base 2 "is_step" fS spIsStep) : FnR P w K mg base CX0 3 f (spInit C) := by
  obtain ⟨z1, z2, z3, z4, z5, z6, cdv, z7, z8, rfl, lk, hcd⟩ := F.ex
  refine (fn_starZ (ps := ["self"]) (pv := "steps") (sp := spInitS C) (k := 2) lk hcd scInit StX.cxUp_none (StX.bind_star1 (B := fun us => bindArgs _ ⟨us, []⟩) (fun _ => rfl) (fun _ _ _ => rfl)) fun A outer s H vs Q E hr h => ?_).imp fun vs H Q E h => ?_
  · obtain ⟨x, tp, dx, ws, ss, rfl, e1, e2, e3, hl, hs, k⟩ := h
    obtain ⟨u, hu⟩ := T.cs
    suffices h : ∃ t, PSs (cxOf CX0 P w K mg base ["self", "steps", "index", "step"] "Plan.__init__" (defScope sInit) f cdv A outer s H E).nox (defBody sInit) t ∧ t { nx := fun _ H' => Q .non H', rt := Q } (start ["self", "steps", "index", "step"] [.ref x, .ref tp]) H by
      obtain ⟨t, h1, h2⟩ := h
      exact ⟨t, h1.nox, h2⟩
    refine ⟨_, pss_cons (ps_for PassesOwn.never rfl (pi_enumT (by rfl) T.b.enumerate (pa_cons (pv 1) pa_nil))
        (pg_tup rfl (pgs_cons (pg_name (i := 2) scInit.nd rfl (.inl rfl)) (pgs_cons (pg_name (i := 3) scInit.nd rfl (.inl rfl)) pgs_nil)))
        (pss_one (ps_if (PW.pt (pw_or (pt_cmpR op_eq (pv 2) (ClX.pe_cval (pe_glob (v := .ref C) rfl T.gP rfl)) (nomark _))
          (pw_or1 (pt_not (pt_val (pe_callR N.ok hr rfl N.at_ N.kp pass0 (pa_cons (pv 3) pa_nil))))))) (pss_one ps_never) pss_nil)))
      (pss_one (ps_fld (pv 0) (pv 1) rfl)), ?_⟩
    refine ⟨_, rfl, tp, ws, rfl, e2.sq, ?_⟩
    refine for_it (walk_enumT (xs := ws)) (fun i σ H' => ∃ a b, σ = [some (.ref x), some (.ref tp), a, b] ∧ Same H H') ⟨none, none, rfl, Same.refl H⟩ (fun i σ H' _ ⟨_, _, _, s1⟩ => (e2.same s1).sq) ?_ ?_
    · rintro i v σ H1 H2 hi ⟨a, b, rfl, s1⟩ ⟨q, y1, y2, rfl, n1, rfl, z1, z2⟩
      obtain ⟨st, hst, t, rfl, ht⟩ := e3.get z2
      have okst := hs st (List.mem_of_getElem? hst)
      have s2 : Same H (upd H1 q (.tup [y1, .ref t])) := s1.trans (same_upd n1)
      have ht2 := s2 _ _ ht
      cases z1
      refine ⟨q, _, rfl, SqT.of upd_same, rfl, _, _, rfl, _, _, rfl, rfl, ?_⟩
      have hi' : i < 60 := by rw [e3.length] at hi; omega
      refine ⟨_, rfl, C, mc, _, u, rfl, T.rd, hu, rfl, _, rfl, ?_⟩
      rw [decide_eq_false (show ¬ V.int (i : Int) = V.int 60 from fun z => by injection z with z; omega)]
      refine iteF ?_
      refine ⟨_, rfl, _, st, rfl, ⟨t, rfl, ht2⟩, okst, fun H3 s3 => ⟨_, rfl, ?_⟩⟩
      exact iteF ⟨_, _, rfl, s2.trans s3⟩
    · rintro σ H' ⟨a, b, rfl, s1⟩
      refine ⟨_, rfl, _, rfl, x, C, dx, _, rfl, s1 _ _ e1, T.cl, T.nS, (by show 0 < 1000; decide), ?_⟩
      exact k _ (fun b o n e => by rw [upd_ne n]; exact s1 _ _ e) upd_same
  · obtain ⟨x, dx, ws, ss, rfl, e1, e3, hl, hs, k⟩ := h
    refine ⟨[.ref x], ws, rfl, rfl, ?_, fun p ob hp hd => ?_⟩
    · rw [e3.length]
      exact Nat.le_trans hl (by decide)
    · have s1 : Same H (upd H p (.frz ob (.tup ws))) := same_upd hp
      refine ⟨x, p, dx, ws, ss, rfl, s1 _ _ e1, ⟨ob, hd, upd_same⟩, e3.same s1, hl, hs, fun H' b1 b2 => ?_⟩
      exact k H' p (fun b o n e => b1 b o n (s1 _ _ e)) b2 ⟨ob, hd, b1 _ _ (ne_of_none e1 hp).symm upd_same⟩
end
end Cc

/-! Nobody carries less: the least price of each place behind the steps. -/
namespace Cc
open PySem PySem.Spec PyProof.Rows L2
def ab (i : Int) : Int := if i < 0 then -i else i
/-- the prices of the places 0, 1, .. when T are carried and pos is the lazy place -/
def priceF (n : Nat) (T pos : Int) : List Int := (List.range n).map fun (g : Nat) => T + ab ((g : Int) - pos)
/-- the place (chairs in the room that was red at first), by the side -/
def placeF (c side r : Int) : Int := if side = 1 then r else c - r
/-- the places that a meeting allows -/
def goodF (c : Int) (first : Bool) (need : Int) (n : Nat) : List Nat := (List.range n).filter fun (g : Nat) => decide (need ≤ if first = true then (0 + (g : Int)) else c - (0 + (g : Int)))
theorem mem_goodF {c : Int} {first : Bool} {need : Int} {n g : Nat} : g ∈ goodF c first need n ↔ g < n ∧ need ≤ (if first = true then (g : Int) else c - g) := by
  unfold goodF
  rw [List.mem_filter, List.mem_range]
  simp
/-- a meeting moves the lazy place to the nearest that it allows -/
theorem place_meet {c side r n : Int} {b : Bool} (hs : side = 1 ∨ side = -1) (h0 : 0 ≤ r) (h1 : r ≤ c) (n0 : 0 ≤ n) (n1 : n ≤ c) (first : Bool) (hf : first = (b == decide (side = 1))) :
    placeF c side (stepF c (.meet b n) r).1 = (if first = true then (if placeF c side r < n then n else placeF c side r) else (if c - n < placeF c side r then c - n else placeF c side r)) ∧
    (stepF c (.meet b n) r).2 = ab (placeF c side (stepF c (.meet b n) r).1 - placeF c side r) := by
  subst hf
  rcases hs with rfl | rfl <;> cases b <;> simp [placeF, stepF, mx, ab] <;> omega
theorem place_in {c side r : Int} (h0 : 0 ≤ r) (h1 : r ≤ c) : 0 ≤ placeF c side r ∧ placeF c side r ≤ c := by
  unfold placeF
  split <;> omega
/-- the new price of a place -/
theorem price_meet {c side r n T : Int} {b : Bool} (hs : side = 1 ∨ side = -1) (h0 : 0 ≤ r) (h1 : r ≤ c) (n0 : 0 ≤ n) (n1 : n ≤ c) (first : Bool) (hf : first = (b == decide (side = 1))) (g : Int) :
    (∃ p : Nat, p ∈ goodF c first n (c + 1).toNat ∧ (T + ab ((p : Int) - placeF c side r)) + ab ((p : Int) - g) = (T + (stepF c (.meet b n) r).2) + ab (g - placeF c side (stepF c (.meet b n) r).1)) ∧
    ∀ p : Nat, p ∈ goodF c first n (c + 1).toNat → (T + (stepF c (.meet b n) r).2) + ab (g - placeF c side (stepF c (.meet b n) r).1) ≤ (T + ab ((p : Int) - placeF c side r)) + ab ((p : Int) - g) := by
  obtain ⟨e1, e2⟩ := place_meet hs h0 h1 n0 n1 first hf
  obtain ⟨p0, p1⟩ := place_in (side := side) h0 h1
  rw [e2]
  generalize placeF c side r = pos at *
  generalize placeF c side (stepF c (.meet b n) r).1 = pos' at *
  have hp0 : 0 ≤ pos' := by
    subst e1
    split <;> split <;> omega
  refine ⟨⟨pos'.toNat, mem_goodF.mpr ⟨?_, ?_⟩, ?_⟩, fun p hp => ?_⟩
  · subst e1
    split <;> split <;> omega
  · have q : ((pos'.toNat : Nat) : Int) = pos' := by omega
    rw [q]
    subst e1
    cases first <;> simp <;> split <;> omega
  · have q : ((pos'.toNat : Nat) : Int) = pos' := by omega
    rw [q]
    unfold ab
    split <;> split <;> split <;> omega
  · obtain ⟨hp1, hp2⟩ := mem_goodF.mp hp
    unfold ab
    cases first
    · simp at e1 hp2
      subst e1
      split <;> split <;> split <;> split <;> omega
    · simp at e1 hp2
      subst e1
      split <;> split <;> split <;> split <;> omega
theorem least_is {ns : List Int} {m v : Int} (h1 : m ∈ ns) (h2 : ∀ x ∈ ns, m ≤ x) (h3 : v ∈ ns) (h4 : ∀ x ∈ ns, v ≤ x) : m = v := Int.le_antisymm (h2 v h3) (h4 m h1)
theorem priceF_get {n : Nat} {T pos : Int} {p : Nat} (h : p < n) : (priceF n T pos)[p]? = some (T + ab ((p : Int) - pos)) := by
  unfold priceF
  rw [List.getElem?_map, List.getElem?_range h]
  rfl
end Cc
namespace Cc
open PySem PySem.Spec PyProof.Rows L2
theorem ifT {c : Bool} {A B : Prop} (hc : c = true) (h : A) : if c = true then A else B := by
  rw [if_pos hc]
  exact h
theorem ifF {c : Bool} {A B : Prop} (hc : c = false) (h : B) : if c = true then A else B := by
  rw [hc, if_neg Bool.false_ne_true]
  exact h
theorem same_new {H H' : Hp} {D : Addr} {o : HO} (h : H D = none) (s : Same H H') : Same H (upd H' D o) := fun b u e => by
  rw [upd_ne (ne_of_none e h)]
  exact s b u e
theorem upd_lst {H : Hp} {D : Addr} {xs ys : List V} (h : xs = ys) : upd H D (.lst xs) D = some (.lst ys) := by
  rw [h]
  exact upd_same
theorem priceF_succ (n : Nat) (T pos : Int) : (priceF (n + 1) T pos).map V.int = (priceF n T pos).map V.int ++ [V.int (T + ab ((n : Int) - pos))] := by
  unfold priceF
  rw [List.range_succ, List.map_append, List.map_append]
  rfl
theorem priceF_len (n : Nat) (T pos : Int) : (priceF n T pos).length = n := by
  simp [priceF]
def goodV (c : Int) (first : Bool) (need : Int) (n : Nat) : List V := (goodF c first need n).map fun (p : Nat) => V.int (0 + (p : Int))
theorem goodV_succ (c : Int) (first : Bool) (need : Int) (n : Nat) (h : (decide (need ≤ if first = true then (0 + (n : Int)) else c - (0 + (n : Int)))) = true) : goodV c first need (n + 1) = goodV c first need n ++ [V.int (0 + (n : Int))] := by
  unfold goodV goodF
  rw [List.range_succ, List.filter_append, List.map_append]
  simp only [List.filter_cons, h, if_true, List.filter_nil, List.map_cons, List.map_nil]
theorem goodV_skip (c : Int) (first : Bool) (need : Int) (n : Nat) (h : (decide (need ≤ if first = true then (0 + (n : Int)) else c - (0 + (n : Int)))) = false) : goodV c first need (n + 1) = goodV c first need n := by
  unfold goodV goodF
  rw [List.range_succ, List.filter_append, List.map_append]
  simp only [List.filter_cons, h, Bool.false_eq_true, if_false, List.filter_nil, List.map_nil, List.append_nil]
theorem goodV_len (c : Int) (first : Bool) (need : Int) (n : Nat) : (goodV c first need n).length ≤ n := by
  unfold goodV goodF
  rw [List.length_map]
  exact Nat.le_trans (List.length_filter_le _ _) (by rw [List.length_range]; exact Nat.le_refl n)
theorem room_turn (b : Bool) : decide (V.str (roomS b) = V.str "turn") = false := by
  cases b <;> decide +kernel
theorem first_eq (b : Bool) (side : Int) : decide (V.bl (decide (V.str (roomS b) = V.str "red")) = V.bl (decide (V.int side = V.int 1))) = (b == decide (side = 1)) := by
  rw [room_eq]
  have e : decide (V.int side = V.int 1) = decide (side = 1) := by
    by_cases h : side = 1
    · subst h; simp
    · rw [decide_eq_false h, decide_eq_false fun z => h (by injection z)]
  rw [e]
  cases b <;> cases decide (side = 1) <;> decide
theorem small_line {i n : Nat} (h : i < n) (hn : n ≤ 2000) : i < sizeLine := by
  rw [sizeLine_eq]
  omega
end Cc

/-! Drawing in the laws of the second part: the script mixed, the next number. -/
namespace Cc
open PySem PySem.Spec PyProof.Rows L2
/-- all but two lists are kept -/
def But2 (h l : Addr) (H H1 : Hp) : Prop := ∀ b o, b ≠ h → b ≠ l → H b = some o → H1 b = some o
theorem But2.refl (h l : Addr) (H : Hp) : But2 h l H H := fun _ _ _ _ e => e
theorem But2.trans {h l : Addr} {H H1 H2 : Hp} (a : But2 h l H H1) (b : But2 h l H1 H2) : But2 h l H H2 := fun c o n1 n2 e => b c o n1 n2 (a c o n1 n2 e)
theorem But2.of {h l : Addr} {H H1 : Hp} (s : Same H H1) : But2 h l H H1 := fun b o _ _ e => s b o e
/-- the law's state -/
def NextAt (H : Hp) (h l : Addr) : Prop := ∃ (m k : Int) (ns : List Int), H h = some (.lst [.int m, .ref l, .int k]) ∧ H l = some (.lst (ns.map V.int)) ∧ ns.length ≤ 63 ∧ h ≠ l
theorem NextAt.ne {H : Hp} {h l : Addr} (n : NextAt H h l) : h ≠ l := let ⟨_, _, _, _, _, _, e⟩ := n; e
theorem NextAt.h1 {H : Hp} {h l : Addr} (n : NextAt H h l) : ∃ xs, H h = some (.lst xs) := let ⟨_, _, _, e, _⟩ := n; ⟨_, e⟩
theorem NextAt.l1 {H : Hp} {h l : Addr} (n : NextAt H h l) : ∃ xs, H l = some (.lst xs) := let ⟨_, _, _, _, e, _⟩ := n; ⟨_, e⟩
theorem NextAt.same {H H1 : Hp} {h l : Addr} (n : NextAt H h l) (s : Same H H1) : NextAt H1 h l :=
  let ⟨m, k, ns, a, b, c, d⟩ := n
  ⟨m, k, ns, s _ _ a, s _ _ b, c, d⟩
theorem But2.none {h l : Addr} {H H1 : Hp} (b : But2 h l H H1) (n : NextAt H h l) {p : Addr} (hp : H1 p = Option.none) (n1 : NextAt H1 h l) : H p = Option.none := by
  cases e : H p with
  | none => rfl
  | some o =>
    have a1 : p ≠ h := fun z => by
      subst z
      obtain ⟨xs, w⟩ := n1.h1
      rw [hp] at w
      cases w
    have a2 : p ≠ l := fun z => by
      subst z
      obtain ⟨xs, w⟩ := n1.l1
      rw [hp] at w
      cases w
    rw [b _ _ a1 a2 e] at hp
    cases hp
theorem But2.tup {h l : Addr} {H H1 : Hp} (b : But2 h l H H1) (n : NextAt H h l) : ∀ t us, H t = some (.tup us) → H1 t = some (.tup us) := fun t us e => by
  obtain ⟨xs, e1⟩ := n.h1
  obtain ⟨ys, e2⟩ := n.l1
  exact b _ _ (ne_of e e1 fun z => nomatch z) (ne_of e e2 fun z => nomatch z) e
theorem But2.ins {h l : Addr} {H H1 : Hp} (b : But2 h l H H1) (n : NextAt H h l) {p C dx : Addr} {fs : List (Str × V)} (e : H p = some (.ins C dx fs)) : H1 p = some (.ins C dx fs) := by
  obtain ⟨xs, e1⟩ := n.h1
  obtain ⟨ys, e2⟩ := n.l1
  exact b _ _ (ne_of e e1 fun z => nomatch z) (ne_of e e2 fun z => nomatch z) e
theorem sn_none {H H1 : Hp} {p : Addr} (s : Same H H1) (h : H1 p = Option.none) : H p = Option.none := by
  cases e : H p with
  | none => rfl
  | some o =>
    rw [s _ _ e] at h
    cases h
def spMix (K : PySem.W.Frag) : Sp := fun vs H Q _ => ∃ (a : Addr) (ns : List Int) (sd : Int), vs = [.ref a, .int sd] ∧ SqF K H a (ns.map V.int) ∧ ns.length ≤ 63 ∧ ∀ h l H', H h = none → H l = none → Same H H' → NextAt H' h l → Q (.ref h) H'
def spNext : Sp := fun vs H Q _ => ∃ (h l : Addr) (n : Int), vs = [.ref h, .int n] ∧ NextAt H h l ∧ 0 < n ∧ n ≤ 9223372036854775807 ∧ ∀ r H', 0 ≤ r → r < n → NextAt H' h l → But2 h l H H' → Q (.int r) H'
section
variable {P : Program} {w : World} {K : PySem.W.Frag} {mg : Str → Option Value} {base : Heap} {C TU pS gS : Addr} {mc : Value}
abbrev s__law_mix : Stmt := top 37
abbrev n__law_mix : List Str := ["_law_script", "_law_seed", "_law_mixed", "_law_cell"]
theorem sc__law_mix : FnScope n__law_mix ["_law_script", "_law_seed"] (defScope s__law_mix) := ⟨rfl, rfl, rfl, by decide +kernel, rfl, by decide +kernel, by decide +kernel⟩
theorem ok__law_mix {f : Addr} {fd : FuncData} (F : Fun K "_law_mix" "_law_mix" s__law_mix f fd) (B : Bt mg) : FnOk P w K mg base CX0 1 f fd ["_law_script", "_law_seed"] (spMix K) := by
  refine F.ok sc__law_mix (fun vs H Q E h => ?_) (fun cdv A outer s H vs Q E hr h => ?_)
  · obtain ⟨a, ns, sd, rfl, _⟩ := h
    rfl
  · obtain ⟨a, ns, sd, rfl, hF, hlen, k⟩ := h
    refine ⟨_, pss_cons (ps_set (i := 2) sc__law_mix.nd rfl (.inl rfl) (pv 1))
      (pss_cons (ps_for PassesOwn.never rfl (pi_list (pv 0)) (pg_name (i := 3) sc__law_mix.nd rfl (.inl rfl))
        (pss_one (ps_set (i := 2) sc__law_mix.nd rfl (.inl rfl) (pe_op op_mod (pe_op op_add (pe_op op_add (pe_op op_mul (pv 2) pe_int) (pe_op op_mod (pv 3) pe_int)) pe_int) pe_int))))
      (pss_one (ps_ret (pe_lst (pa_cons (pv 2) (pa_cons (pe_callTy call_list_of (by rfl) B.list (by decide +kernel) (pa_cons (pv 0) pa_nil)) (pa_cons pe_int pa_nil))))))), ?_⟩
    refine ⟨_, rfl, _, rfl, a, rfl, ⟨_, hF.sq⟩, for_list (K := K) (a := a) (xs := ns.map V.int) (fun i σ H' => H' = H ∧ ∃ (m : Int) (v : Option V), σ = [some (.ref a), some (.int sd), some (.int m), v]) ⟨rfl, sd, none, rfl⟩ (fun i σ H' _ ⟨e, _⟩ => by subst e; exact hF.sq) ?_ ?_⟩
    · rintro i x σ H' hi ⟨rfl, m, v, rfl⟩
      rw [List.getElem?_map] at hi
      obtain ⟨z, hz, rfl⟩ : ∃ z, ns[i]? = some z ∧ x = V.int z := by
        cases e : ns[i]? with
        | none =>
          rw [e] at hi
          cases hi
        | some z =>
          rw [e] at hi
          exact ⟨z, rfl, (Option.some.inj hi).symm⟩
      exact ⟨_, rfl, _, _, rfl, rfl, .inr ⟨by decide, by decide⟩, _, rfl, _, _, rfl, rfl, (by show (0 : Int) < 2147483629; decide), _, _, rfl, rfl, _, _, rfl, rfl, _, _, rfl, rfl, (by show (0 : Int) < 2147483647; decide), rfl, _, _, rfl⟩
    · rintro σ H' ⟨rfl, m, v, rfl⟩
      refine ⟨_, rfl, _, rfl, a, _, rfl, .inl hF.sq, fun l hl => ⟨by show 3 ≤ sizeLine; decide, fun h hh => ?_⟩⟩
      have hne : h ≠ l := fun z => by
        rw [z, upd_same] at hh
        cases hh
      exact k h l _ (sn_none (same_upd hl) hh) hl ((same_upd hl).trans (same_upd hh)) ⟨m, 0, ns, upd_same, (same_upd hh) _ _ upd_same, hlen, hne⟩
abbrev s__law_next : Stmt := top 38
abbrev n__law_next : List Str := ["_law_h", "_law_limit", "_law_cell"]
theorem sc__law_next : FnScope n__law_next ["_law_h", "_law_limit"] (defScope s__law_next) := ⟨rfl, rfl, rfl, by decide +kernel, rfl, by decide +kernel, by decide +kernel⟩
theorem ok__law_next {f : Addr} {fd : FuncData} (F : Fun K "_law_next" "_law_next" s__law_next f fd) (B : Bt mg) : FnOk P w K mg base CX0 1 f fd ["_law_h", "_law_limit"] spNext := by
  refine F.ok sc__law_next (fun vs H Q E h => ?_) (fun cdv A outer s H vs Q E hr h => ?_)
  · obtain ⟨h, l, n, rfl, _⟩ := h
    rfl
  · obtain ⟨h, l, n, rfl, ⟨m, kk, ns, eh, el, hlen, hne⟩, n0, n1, k⟩ := h
    refine ⟨_, pss_cons (ps_set (i := 2) sc__law_next.nd rfl (.inl rfl) (pe_ix ix_list (pe_op op_cat (pe_ix ix_list (pv 0) pe_int (fun _ _ => rfl)) (pe_lst (pa_cons pe_int pa_nil))) (pe_op op_mod (pe_ix ix_list (pv 0) pe_int (fun _ _ => rfl)) (pe_callB (call_max2 rfl) (by rfl) B.max (by decide +kernel) (pa_cons pe_int (pa_cons (pe_callB call_len_seq (by rfl) B.len PySem.boot_len (pa_cons (pe_ix ix_list (pv 0) pe_int (fun _ _ => rfl)) pa_nil)) pa_nil)))) (fun _ _ => rfl)))
      (pss_cons (ps_if (pt_cmpR op_ge (pv 2) (pe_op op_pow pe_int pe_int) (nomark _))
        (pss_cons (ps_asg (pe_op op_fdivW (pv 2) (pv 1)) (pg_sub (pe_ix ix_list (pv 0) pe_int (fun _ _ => rfl)) (pe_op op_mod (pe_ix ix_list (pv 0) pe_int (fun _ _ => rfl)) (pe_callB call_len_seq (by rfl) B.len PySem.boot_len (pa_cons (pe_ix ix_list (pv 0) pe_int (fun _ _ => rfl)) pa_nil))) set_list))
        (pss_one (ps_ret (pe_op op_mod (pv 2) (pv 1))))) pss_nil)
      (pss_cons (ps_asg (pe_op op_mod (pe_op op_add (pe_op op_add (pe_op op_mul (pe_ix ix_list (pv 0) pe_int (fun _ _ => rfl)) pe_int) (pe_op op_mul (pv 2) pe_int)) pe_int) pe_int) (pg_sub (pv 0) pe_int set_list))
      (pss_cons (ps_asg (pe_op op_add (pe_ix ix_list (pv 0) pe_int (fun _ _ => rfl)) pe_int) (pg_sub (pv 0) pe_int set_list))
      (pss_one (ps_ret (pe_op op_mod (pe_op op_fdiv (pe_ix ix_list (pv 0) pe_int (fun _ _ => rfl)) pe_int) (pv 1))))))), ?_⟩
    have hw : ∀ i, CDivW i n := fun i => wide_div (b := 63) n0 (by omega) (by decide) (by decide)
    refine ⟨_, rfl, h, _, _, _, rfl, rfl, SqL.of eh, at_of (j := 1) rfl rfl, by show 1 ≤ sizeLine; decide, fun p1 hp1 => ?_⟩
    have s1 := same_upd (o := .lst [.int 0]) hp1
    have lm : (ns.map V.int).length = ns.length := List.length_map ..
    refine ⟨l, p1, _, _, rfl, rfl, s1 _ _ el, upd_same, by rw [lm, sizeLine_eq]; show ns.length + 1 ≤ _; omega, fun p2 hp2 => ?_⟩
    have s2 := s1.trans (same_upd (o := .lst (ns.map V.int ++ [.int 0])) hp2)
    have e2 : (upd (upd H p1 (.lst [.int 0])) p2 (.lst (ns.map V.int ++ [.int 0]))) p2 = some (.lst ((ns ++ [0]).map V.int)) := upd_lst (by rw [List.map_append]; rfl)
    generalize upd (upd H p1 (.lst [.int 0])) p2 (.lst (ns.map V.int ++ [.int 0])) = H2 at *
    have eh2 := s2 _ _ eh
    have el2 := s2 _ _ el
    refine ⟨_, rfl, h, _, _, _, rfl, rfl, SqL.of eh2, at_of (j := 2) rfl rfl, _, rfl, h, _, _, _, rfl, rfl, SqL.of eh2, at_of (j := 1) rfl rfl, l, _, rfl, .inl (SqL.of el2), 1, _, rfl, ?_⟩
    rw [lm]
    have mpos : (0 : Int) < (if (ns.length : Int) > 1 then (ns.length : Int) else 1) := by split <;> omega
    refine ⟨_, _, rfl, rfl, mpos, ?_⟩
    obtain ⟨j, ej⟩ : ∃ j : Nat, kk % (if (ns.length : Int) > 1 then (ns.length : Int) else 1) = (j : Int) := ⟨(kk % (if (ns.length : Int) > 1 then (ns.length : Int) else 1)).toNat, by rw [Int.toNat_of_nonneg (Int.emod_nonneg _ (by omega))]⟩
    have hj : j < ns.length + 1 := by
      have z := Int.emod_lt_of_pos kk mpos
      rw [ej] at z
      split at z <;> omega
    obtain ⟨cell, hc⟩ : ∃ cell, (ns ++ [0])[j]? = some cell := ⟨_, List.getElem?_eq_getElem (by rw [List.length_append]; exact hj)⟩
    refine ⟨p2, _, _, _, rfl, rfl, SqL.of e2, at_of (j := j) (v := V.int cell) ej (by rw [List.getElem?_map, hc]; rfl), ?_⟩
    refine ⟨_, rfl, _, _, rfl, rfl, ⟨by decide, by decide, by decide⟩, _, _, rfl, rfl, _, rfl, ?_⟩
    have b02 : But2 h l H H2 := But2.of s2
    have fin : ∀ (r m' k' : Int) (ns' : List Int) (H' : Hp), 0 ≤ r → r < n → ns'.length = ns.length → H' h = some (.lst [.int m', .ref l, .int k']) → H' l = some (.lst (ns'.map V.int)) → But2 h l H2 H' → Q (.int r) H' := fun r m' k' ns' H' r0 r1 nl e1 e2 b =>
      k r H' r0 r1 ⟨m', k', ns', e1, e2, by omega, hne⟩ (b02.trans b)
    refine ite2 (fun c => ?_) (fun _ => ?_)
    · have c18 : (10 : Int) ^ (18 : Int).toNat ≤ cell := of_decide_eq_true c
      have hjn : j < ns.length := by
        rcases Nat.lt_or_ge j ns.length with z | z
        · exact z
        · exfalso
          have : j = ns.length := by omega
          subst this
          rw [List.getElem?_append_right (Nat.le_refl _), Nat.sub_self] at hc
          cases hc
          exact absurd c18 (by decide)
      have npos : (0 : Int) < (ns.length : Int) := by omega
      have em : kk % (ns.length : Int) = (j : Int) := by
        rw [← ej]
        by_cases g : (ns.length : Int) > 1
        · rw [if_pos g]
        · rw [if_neg g]
          have : (ns.length : Int) = 1 := by omega
          rw [this]
      refine ⟨_, rfl, _, rfl, _, _, rfl, rfl, hw _, ?_⟩
      refine ⟨_, rfl, h, _, _, _, rfl, rfl, SqL.of eh2, at_of (j := 1) rfl rfl, _, rfl, h, _, _, _, rfl, rfl, SqL.of eh2, at_of (j := 2) rfl rfl, _, rfl, h, _, _, _, rfl, rfl, SqL.of eh2, at_of (j := 1) rfl rfl, l, _, rfl, .inl (SqL.of el2), _, _, rfl, rfl, by rw [lm]; exact npos, ?_⟩
      have ix : ixN (ns.map V.int).length (kk % ((ns.map V.int).length : Int)) = some j := by
        rw [lm, em]
        unfold ixN
        rw [if_pos (by omega), if_pos (by omega), Int.toNat_natCast]
      refine ⟨l, _, _, j, rfl, rfl, el2, ix, ?_⟩
      refine ⟨_, rfl, _, rfl, _, _, rfl, rfl, n0, ?_⟩
      have ns' : (ns.map V.int).set j (.int (cell / n)) = (ns.set j (cell / n)).map V.int := by rw [List.map_set]
      refine fin (cell % n) m kk (ns.set j (cell / n)) _ (Int.emod_nonneg _ (by omega)) (Int.emod_lt_of_pos _ n0) (List.length_set ..) (by rw [upd_ne hne]; exact eh2) (upd_lst ns') fun b o _ nl e => by rw [upd_ne nl]; exact e
    · refine ⟨_, rfl, h, _, _, _, rfl, rfl, SqL.of eh2, at_of (j := 0) rfl rfl, _, _, rfl, rfl, .inr ⟨by decide, by decide⟩, _, rfl, _, _, rfl, rfl, .inr ⟨by decide, by decide⟩, _, _, rfl, rfl, _, _, rfl, rfl, _, _, rfl, rfl, (by show (0 : Int) < 2147483647; decide), ?_⟩
      refine ⟨_, rfl, h, _, _, 0, rfl, rfl, eh2, rfl, ?_⟩
      refine ⟨_, rfl, h, _, _, _, rfl, rfl, SqL.of upd_same, at_of (j := 2) rfl rfl, _, _, rfl, rfl, ?_⟩
      refine ⟨_, rfl, h, _, _, 2, rfl, rfl, upd_same, rfl, ?_⟩
      refine ⟨_, rfl, h, _, _, _, rfl, rfl, SqL.of upd_same, at_of (j := 0) rfl rfl, _, _, rfl, rfl, ⟨by decide, by decide⟩, _, rfl, _, _, rfl, rfl, n0, ?_⟩
      refine fin _ _ _ ns _ (Int.emod_nonneg _ (by omega)) (Int.emod_lt_of_pos _ n0) rfl upd_same (by rw [upd_ne (Ne.symm hne), upd_ne (Ne.symm hne)]; exact el2) fun b o nh _ e => by rw [upd_ne nh, upd_ne nh]; exact e
end
end Cc

/-! Steps of which some are the module's own turn. -/
namespace Cc
open PySem PySem.Spec PyProof.Rows L2
/-- a step, wherever its tuple stands -/
def StepV (K : PySem.W.Frag) (H : Hp) (v : V) (s : Stp) : Prop := ∃ t, v = .ref t ∧ ∀ H', (∀ t xs, H t = some (.tup xs) → H' t = some (.tup xs)) → SqT K H' t (stpV s)
def StepsV (K : PySem.W.Frag) (H : Hp) (vs : List V) (ss : List Stp) : Prop := Paired (StepV K H) vs ss
theorem StepV.of {K : PySem.W.Frag} {H : Hp} {v : V} {s : Stp} (h : StepAt H v s) : StepV K H v s :=
  let ⟨t, e, g⟩ := h
  ⟨t, e, fun H' k => SqT.of (k _ _ g)⟩
theorem StepV.mono {K : PySem.W.Frag} {H H1 : Hp} {v : V} {s : Stp} (h : StepV K H v s) (m : ∀ t xs, H t = some (.tup xs) → H1 t = some (.tup xs)) : StepV K H1 v s :=
  let ⟨t, e, g⟩ := h
  ⟨t, e, fun H' k => g H' fun t xs z => k t xs (m t xs z)⟩
theorem StepsV.of {K : PySem.W.Frag} {H : Hp} : ∀ {vs : List V} {ss : List Stp}, Steps H vs ss → StepsV K H vs ss
  | _, _, .nil => .nil
  | _, _, .cons a r => .cons (.of a) (StepsV.of r)
theorem StepsV.mono {K : PySem.W.Frag} {H H1 : Hp} : ∀ {vs : List V} {ss : List Stp}, StepsV K H vs ss → (∀ t xs, H t = some (.tup xs) → H1 t = some (.tup xs)) → StepsV K H1 vs ss
  | _, _, .nil, _ => .nil
  | _, _, .cons a r, m => .cons (a.mono m) (StepsV.mono r m)
theorem StepsV.append {K : PySem.W.Frag} {H : Hp} : ∀ {vs ws : List V} {ss us : List Stp}, StepsV K H vs ss → StepsV K H ws us → StepsV K H (vs ++ ws) (ss ++ us)
  | _, _, _, _, .nil, h => h
  | _, _, _, _, .cons a r, h => .cons a (StepsV.append r h)
theorem StepsV.length {K : PySem.W.Frag} {H : Hp} {vs : List V} {ss : List Stp} (h : StepsV K H vs ss) : vs.length = ss.length := Paired.length h
theorem StepsV.get {K : PySem.W.Frag} {H : Hp} : ∀ {vs : List V} {ss : List Stp} {i : Nat} {v : V}, StepsV K H vs ss → vs[i]? = some v → ∃ s, ss[i]? = some s ∧ StepV K H v s
  | _, _, 0, _, .cons a r, e => by
    cases e
    exact ⟨_, rfl, a⟩
  | _, _, i + 1, v, .cons a r, e => StepsV.get (i := i) r e
theorem StepsV.same {K : PySem.W.Frag} {H H1 : Hp} {vs : List V} {ss : List Stp} (h : StepsV K H vs ss) (s : Same H H1) : StepsV K H1 vs ss := h.mono fun t xs e => s _ _ e
theorem same_none {H H1 : Hp} {p : Addr} (s : Same H H1) (h : H1 p = none) : H p = none := by
  cases e : H p with
  | none => rfl
  | some o =>
    rw [s _ _ e] at h
    cases h
theorem sqT_ty {K : PySem.W.Frag} {H : Hp} {t : Addr} {xs : List V} (h : SqT K H t xs) : TyX K H (.ref t) (.type "tuple") := by
  rcases h with (h | ⟨o, h⟩) | ⟨o, its, n, h, c, _⟩
  · exact .base (.tup h)
  · exact .fTuple h
  · exact .kTuple h c
def spIsStepV (K : PySem.W.Frag) : Sp := fun vs H Q _ => ∃ (v : V) (s : Stp), vs = [v] ∧ StepV K H v s ∧ s.ok 1000000000000000000 ∧ ∀ H', Same H H' → Q (.bl true) H'
def spInitSV (K : PySem.W.Frag) (C : Addr) : Sp := fun vs H Q _ => ∃ (x tp dx : Addr) (ws : List V) (ss : List Stp), vs = [.ref x, .ref tp] ∧ H x = some (.ins C dx []) ∧ TupP H tp ws ∧ StepsV K H ws ss ∧ ss.length ≤ 60 ∧ (∀ s ∈ ss, s.ok 1000000000000000000) ∧
  ∀ H', But x H H' → H' x = some (.ins C dx [("step_tuple", .ref tp)]) → Q .non H'
def spInitV (K : PySem.W.Frag) (C : Addr) : Sp := fun vs H Q _ => ∃ (x dx : Addr) (ws : List V) (ss : List Stp), vs = .ref x :: ws ∧ H x = some (.ins C dx []) ∧ StepsV K H ws ss ∧ ss.length ≤ 60 ∧ (∀ s ∈ ss, s.ok 1000000000000000000) ∧
  ∀ H' tp, But x H H' → H' x = some (.ins C dx [("step_tuple", .ref tp)]) → TupP H' tp ws → Q .non H'
/-- a plan, some of whose turns may be the module's -/
def PlanV (K : PySem.W.Frag) (C : Addr) (H : Hp) (p : Addr) (ss : List Stp) : Prop := ∃ dx tp ws, H p = some (.ins C dx [("step_tuple", .ref tp)]) ∧ TupP H tp ws ∧ StepsV K H ws ss
theorem PlanV.same {K : PySem.W.Frag} {C : Addr} {H H1 : Hp} {p : Addr} {ss : List Stp} (h : PlanV K C H p ss) (s : Same H H1) : PlanV K C H1 p ss :=
  let ⟨dx, tp, ws, a, b, c⟩ := h
  ⟨dx, tp, ws, s _ _ a, b.same s, c.same s⟩
section
variable {P : Program} {w : World} {K : PySem.W.Frag} {mg : Str → Option Value} {base : Heap} {C TU pS gS : Addr} {mc : Value}
theorem turn_stepV (T : Txt K mg C TU pS gS mc) (H : Hp) : StepV K H (.ref TU) .turn := ⟨TU, rfl, fun H' _ => T.tT H'⟩
theorem ok_isstepV {f fN : Addr} {fd : FuncData} (F : Fun K "is_step" "is_step" sIsStep f fd) (T : Txt K mg C TU pS gS mc) (N : Dn P w K mg base 1 "is_number" fN spIsNum) : FnOk P w K mg base CX0 2 f fd ["step"] (spIsStepV K) := by
  refine F.ok scIsStep (fun vs H Q E h => ?_) (fun cdv A outer s H vs Q E hr h => ?_)
  · obtain ⟨v, s, rfl, _⟩ := h
    rfl
  · obtain ⟨v, st, rfl, ⟨t, rfl, ht'⟩, ok, k⟩ := h
    have ht := ht' H fun _ _ e => e
    obtain ⟨u, hu⟩ := T.cc
    refine ⟨_, pss_cons (ps_if (pt_not (pt_val (pe_callB call_isi (by rfl) T.b.isinstance (by decide +kernel) (pa_cons (pv 0) (pa_cons (pe_bltn (v := .ty "tuple") (by rfl) T.b.tuple (by decide +kernel) rfl) pa_nil))))) (pss_one (ps_ret pe_bl)) pss_nil)
      (pss_cons (ps_if (pt_cmpR op_eq (pe_callB call_len (by rfl) T.b.len PySem.boot_len (pa_cons (pv 0) pa_nil)) pe_int (nomark _))
        (pss_one (ps_ret (pe_and (pe_cmpR op_in_seq (pe_ix ix_tup (pv 0) pe_int (fun _ _ => rfl)) (pe_tup (pa_cons pe_str (pa_cons pe_str pa_nil))) (by rfl))
          (pe_one (pe_callR N.ok hr rfl N.at_ N.kp pass0 (pa_cons (pe_ix ix_tup (pv 0) pe_int (fun _ _ => rfl)) (pa_cons pe_int (pa_cons (ClX.pe_cval (pe_glob (v := .ref C) rfl T.gP rfl)) pa_nil)))))))) pss_nil)
      (pss_one (ps_ret (pe_cmpR (op_eqD hr.units) (pv 0) (pe_glob (v := .ref TU) rfl T.gT rfl) (nomark _))))), ?_⟩
    refine ⟨_, rfl, _, _, _, _, true, rfl, .ty "tuple", sqT_ty ht, kit_ty (by decide +kernel), true, rfl, ?_⟩
    refine iteF ?_
    refine ⟨_, rfl, _, _, rfl, .inr ⟨_, ht, rfl⟩, rfl, ?_⟩
    cases st with
    | turn =>
      refine ⟨_, rfl, iteF ?_⟩
      refine ⟨_, rfl, .tuple [.str "turn"], .tuple [.str "turn"], .tup ht (.cons (.str _) .nil), .tup (T.tT _) (.cons (.str _) .nil), by decide +kernel, by decide +kernel, ?_⟩
      have e : PyData.eqv (.tuple [.str "turn"]) (.tuple [.str "turn"]) = true := by decide +kernel
      rw [e]
      exact k H (Same.refl H)
    | meet bb n =>
      refine ⟨_, rfl, iteT ?_⟩
      refine ⟨_, rfl, t, _, _, _, rfl, rfl, ht, at_of (j := 0) rfl rfl, by show 2 ≤ sizeLine; decide, fun p hp => ?_⟩
      have s1 : Same H (upd H p (.tup [.str "red", .str "blue"])) := same_upd hp
      refine ⟨p, _, rfl, .inr (SqT.of upd_same), rfl, by decide, _, rfl, ?_⟩
      have e : inV (.str (roomS bb)) [.str "red", .str "blue"] = true := by cases bb <;> decide +kernel
      rw [e]
      refine iteT ⟨_, rfl, t, _, _, _, rfl, rfl, ht' _ fun _ _ z => s1 _ _ z, at_of (j := 1) rfl rfl, C, mc, _, u, rfl, T.rd, hu, n, 0, _, rfl, ?_⟩
      rw [decide_eq_true (show (0 : Int) ≤ n ∧ n ≤ 1000000000000000000 from ok)]
      exact k _ s1
theorem ok_initV {f fS : Addr} {fd : FuncData} (F : Fun K "__init__" "Plan.__init__" sInit f fd) (T : Txt K mg C TU pS gS mc) (N : Dn P w K mg base 2 "is_step" fS (spIsStepV K)) : FnR P w K mg base CX0 3 f (spInitV K C) := by
  obtain ⟨z1, z2, z3, z4, z5, z6, cdv, z7, z8, rfl, lk, hcd⟩ := F.ex
  refine (fn_starZ (ps := ["self"]) (pv := "steps") (sp := spInitSV K C) (k := 2) lk hcd scInit StX.cxUp_none (StX.bind_star1 (B := fun us => bindArgs _ ⟨us, []⟩) (fun _ => rfl) (fun _ _ _ => rfl)) fun A outer s H vs Q E hr h => ?_).imp fun vs H Q E h => ?_
  · obtain ⟨x, tp, dx, ws, ss, rfl, e1, e2, e3, hl, hs, k⟩ := h
    obtain ⟨u, hu⟩ := T.cs
    suffices h : ∃ t, PSs (cxOf CX0 P w K mg base ["self", "steps", "index", "step"] "Plan.__init__" (defScope sInit) f cdv A outer s H E).nox (defBody sInit) t ∧ t { nx := fun _ H' => Q .non H', rt := Q } (start ["self", "steps", "index", "step"] [.ref x, .ref tp]) H by
      obtain ⟨t, h1, h2⟩ := h
      exact ⟨t, h1.nox, h2⟩
    refine ⟨_, pss_cons (ps_for PassesOwn.never rfl (pi_enumT (by rfl) T.b.enumerate (pa_cons (pv 1) pa_nil))
        (pg_tup rfl (pgs_cons (pg_name (i := 2) scInit.nd rfl (.inl rfl)) (pgs_cons (pg_name (i := 3) scInit.nd rfl (.inl rfl)) pgs_nil)))
        (pss_one (ps_if (PW.pt (pw_or (pt_cmpR op_eq (pv 2) (ClX.pe_cval (pe_glob (v := .ref C) rfl T.gP rfl)) (nomark _))
          (pw_or1 (pt_not (pt_val (pe_callR N.ok hr rfl N.at_ N.kp pass0 (pa_cons (pv 3) pa_nil))))))) (pss_one ps_never) pss_nil)))
      (pss_one (ps_fld (pv 0) (pv 1) rfl)), ?_⟩
    refine ⟨_, rfl, tp, ws, rfl, e2.sq, ?_⟩
    refine for_it (walk_enumT (xs := ws)) (fun i σ H' => ∃ a b, σ = [some (.ref x), some (.ref tp), a, b] ∧ Same H H') ⟨none, none, rfl, Same.refl H⟩ (fun i σ H' _ ⟨_, _, _, s1⟩ => (e2.same s1).sq) ?_ ?_
    · rintro i v σ H1 H2 hi ⟨a, b, rfl, s1⟩ ⟨q, y1, y2, rfl, n1, rfl, z1, z2⟩
      obtain ⟨st, hst, hv⟩ := e3.get z2
      have okst := hs st (List.mem_of_getElem? hst)
      have s2 : Same H (upd H1 q (.tup [y1, y2])) := s1.trans (same_upd n1)
      cases z1
      refine ⟨q, _, rfl, SqT.of upd_same, rfl, _, _, rfl, _, _, rfl, rfl, ?_⟩
      have hi' : i < 60 := by
        have := e3.length
        omega
      refine ⟨_, rfl, C, mc, _, u, rfl, T.rd, hu, rfl, _, rfl, ?_⟩
      rw [decide_eq_false (show ¬ V.int (i : Int) = V.int 60 from fun z => by injection z with z; omega)]
      refine iteF ?_
      refine ⟨_, rfl, _, st, rfl, hv.mono fun _ _ z => s2 _ _ z, okst, fun H3 s3 => ⟨_, rfl, ?_⟩⟩
      exact iteF ⟨_, _, rfl, s2.trans s3⟩
    · rintro σ H' ⟨a, b, rfl, s1⟩
      refine ⟨_, rfl, _, rfl, x, C, dx, _, rfl, s1 _ _ e1, T.cl, T.nS, (by show 0 < 1000; decide), ?_⟩
      exact k _ (fun b o n e => by rw [upd_ne n]; exact s1 _ _ e) upd_same
  · obtain ⟨x, dx, ws, ss, rfl, e1, e3, hl, hs, k⟩ := h
    refine ⟨[.ref x], ws, rfl, rfl, ?_, fun p ob hp hd => ?_⟩
    · rw [e3.length]
      exact Nat.le_trans hl (by decide)
    · have s1 : Same H (upd H p (.frz ob (.tup ws))) := same_upd hp
      refine ⟨x, p, dx, ws, ss, rfl, s1 _ _ e1, ⟨ob, hd, upd_same⟩, e3.same s1, hl, hs, fun H' b1 b2 => ?_⟩
      exact k H' p (fun b o n e => b1 b o n (s1 _ _ e)) b2 ⟨ob, hd, b1 _ _ (ne_of_none e1 hp).symm upd_same⟩
end
end Cc

/-! summary: what a plan does to all starts. -/
namespace Cc
open PySem PySem.Spec PyProof.Rows L2
structure Sm where
  low : Int
  high : Int
  extra : Int
  goal : Option Int
  turned : Bool
def goalV : Option Int → V
  | none => .non
  | some g => .int g
/-- how many chairs the room that was red at first may have -/
def allowF (c : Int) (t b : Bool) (n : Int) : Int × Int := if b == t then (0, c - n) else (n, c)
def nearF (g a b : Int) : Int := if b < (if a > g then a else g) then b else (if a > g then a else g)
/-- a meeting behind steps that only keep to a range -/
def narrowF (lo hi a b : Int) : Int × Int × Int × Option Int :=
  if a > hi then (hi, hi, a - hi, some a) else if b < lo then (lo, lo, lo - b, some b) else (mx lo a, (if b < hi then b else hi), 0, none)
def smStep (c : Int) (m : Sm) : Stp → Sm
  | .turn => { m with turned := !m.turned }
  | .meet b n => match m.goal with
    | none => let z := narrowF m.low m.high (allowF c m.turned b n).1 (allowF c m.turned b n).2; { m with low := z.1, high := z.2.1, extra := z.2.2.1, goal := z.2.2.2 }
    | some g => { m with extra := m.extra + ab (nearF g (allowF c m.turned b n).1 (allowF c m.turned b n).2 - g), goal := some (nearF g (allowF c m.turned b n).1 (allowF c m.turned b n).2) }
def smSteps (c : Int) (ss : List Stp) : Sm := ss.foldl (smStep c) ⟨0, c, 0, none, false⟩
theorem smSteps_more (c : Int) (ss : List Stp) (s : Stp) : smSteps c (ss ++ [s]) = smStep c (smSteps c ss) s := by
  unfold smSteps
  rw [List.foldl_append]
  rfl
def smEnd (m : Sm) : Sm := if m.low = m.high ∧ m.goal = none then { m with goal := some m.low } else m
def sideF (t : Bool) : Int := if t then -1 else 1
/-- what a summary says of a start, of the carried and the place -/
structure SmOk (c : Int) (m : Sm) : Prop where
  l0 : 0 ≤ m.low
  lh : m.low ≤ m.high
  h1 : m.high ≤ c
  g : ∀ z, m.goal = some z → 0 ≤ z ∧ z ≤ c
  e : m.goal = none → m.extra = 0
def distF (lo hi x : Int) : Int := if x < lo then lo - x else if hi < x then x - hi else 0
def clampF (lo hi x : Int) : Int := if x < lo then lo else if hi < x then hi else x
def SmSays (m : Sm) (x total place : Int) : Prop := total = distF m.low m.high x + m.extra ∧ place = (match m.goal with | none => clampF m.low m.high x | some z => z)
theorem says_start (c x : Int) (h0 : 0 ≤ x) (h1 : x ≤ c) : SmOk c ⟨0, c, 0, none, false⟩ ∧ SmSays ⟨0, c, 0, none, false⟩ x 0 (placeF c 1 x) := by
  refine ⟨⟨Int.le_refl 0, by show 0 ≤ c; omega, Int.le_refl c, (fun z h => nomatch h), fun _ => rfl⟩, ?_, ?_⟩
  · show 0 = distF 0 c x + 0
    unfold distF
    split
    · omega
    · split <;> omega
  · show placeF c 1 x = clampF 0 c x
    unfold placeF clampF
    simp
    split
    · omega
    · split <;> omega
theorem smOk_step {c : Int} {m : Sm} {s : Stp} (h : SmOk c m) (hs : s.ok c) : SmOk c (smStep c m s) := by
  obtain ⟨low, high, extra, goal, turned⟩ := m
  obtain ⟨l0, lh, h1, hg, he⟩ := h
  simp only at l0 lh h1 hg he
  cases s with
  | turn => exact ⟨l0, lh, h1, hg, he⟩
  | meet b n =>
    obtain ⟨n0, n1⟩ := hs
    cases goal with
    | none =>
      simp only [smStep, narrowF, allowF, mx]
      cases b <;> cases turned <;> simp <;> (split <;> first
        | (constructor <;> simp <;> omega)
        | (split <;> (constructor <;> simp <;> omega)))
    | some z =>
      have hz := hg z rfl
      simp only [smStep, nearF, allowF]
      refine ⟨l0, lh, h1, fun y hy => ?_, fun q => nomatch q⟩
      simp only [Option.some.injEq] at hy
      subst hy
      cases b <;> cases turned <;> simp <;> split <;> split <;> omega
theorem side_of (t : Bool) : sideF t = 1 ∨ sideF t = -1 := by
  cases t <;> simp [sideF]
theorem narrow_says {lo hi a b x : Int} (h : lo ≤ hi) (hab : a ≤ b) : distF lo hi x + ab (clampF a b (clampF lo hi x) - clampF lo hi x) = distF (narrowF lo hi a b).1 (narrowF lo hi a b).2.1 x + (narrowF lo hi a b).2.2.1 ∧
    clampF a b (clampF lo hi x) = (match (narrowF lo hi a b).2.2.2 with | none => clampF (narrowF lo hi a b).1 (narrowF lo hi a b).2.1 x | some z => z) := by
  unfold narrowF
  by_cases q1 : a > hi
  · rw [if_pos q1]
    simp only [distF, clampF, ab]
    omega
  · rw [if_neg q1]
    by_cases q2 : b < lo
    · rw [if_pos q2]
      simp only [distF, clampF, ab]
      omega
    · rw [if_neg q2]
      simp only [distF, clampF, ab, mx]
      omega
theorem near_is {g a b : Int} (hab : a ≤ b) : nearF g a b = clampF a b g := by
  unfold nearF clampF
  omega
/-- a meeting moves the place to the nearest that it allows -/
theorem place_allow {c r n : Int} {b t : Bool} (r0 : 0 ≤ r) (r1 : r ≤ c) (n0 : 0 ≤ n) (n1 : n ≤ c) :
    placeF c (sideF t) (stepF c (.meet b n) r).1 = clampF (allowF c t b n).1 (allowF c t b n).2 (placeF c (sideF t) r) ∧ (stepF c (.meet b n) r).2 = ab (placeF c (sideF t) (stepF c (.meet b n) r).1 - placeF c (sideF t) r) ∧ (allowF c t b n).1 ≤ (allowF c t b n).2 := by
  cases b <;> cases t <;> simp [placeF, sideF, stepF, clampF, allowF, mx, ab] <;> omega
theorem says_step {c : Int} {m : Sm} {s : Stp} {x r total : Int} (ok : SmOk c m) (hs : s.ok c) (r0 : 0 ≤ r) (r1 : r ≤ c) (h : SmSays m x total (placeF c (sideF m.turned) r)) :
    SmSays (smStep c m s) x (total + (stepF c s r).2) (placeF c (sideF (smStep c m s).turned) (stepF c s r).1) := by
  obtain ⟨low, high, extra, goal, turned⟩ := m
  obtain ⟨l0, lh, hc1, hg, he⟩ := ok
  simp only at l0 lh hc1 hg he
  obtain ⟨e1, e2⟩ := h
  simp only at e1 e2
  cases s with
  | turn =>
    refine ⟨?_, ?_⟩
    · show total + 0 = distF low high x + extra
      omega
    · refine Eq.trans ?_ e2
      show placeF c (sideF (!turned)) (c - r) = placeF c (sideF turned) r
      cases turned <;> simp [placeF, sideF] <;> omega
  | meet b n =>
    obtain ⟨n0, n1⟩ := hs
    obtain ⟨f1, f2, f3⟩ := place_allow (c := c) (b := b) (t := turned) r0 r1 n0 n1
    cases goal with
    | none =>
      have he0 := he rfl
      subst he0
      simp only at e2
      obtain ⟨g1, g2⟩ := narrow_says (lo := low) (hi := high) (a := (allowF c turned b n).1) (b := (allowF c turned b n).2) (x := x) lh f3
      refine ⟨?_, ?_⟩
      · refine Eq.trans ?_ g1
        rw [f2, f1, e2, e1, Int.add_zero]
      · refine Eq.trans ?_ g2
        show placeF c (sideF turned) (stepF c (.meet b n) r).1 = _
        rw [f1, e2]
    | some z =>
      simp only at e2
      refine ⟨?_, ?_⟩
      · show total + (stepF c (.meet b n) r).2 = distF low high x + (extra + ab (nearF z (allowF c turned b n).1 (allowF c turned b n).2 - z))
        rw [near_is f3, f2, f1, e2, e1, Int.add_assoc]
      · show placeF c (sideF turned) (stepF c (.meet b n) r).1 = nearF z (allowF c turned b n).1 (allowF c turned b n).2
        rw [near_is f3, f1, e2]
theorem snoc_ind {α : Type} {M : List α → Prop} (h0 : M []) (h1 : ∀ l a, M l → M (l ++ [a])) (l : List α) : M l := by
  have q : ∀ k : List α, M k.reverse := fun k => by
    induction k with
    | nil => exact h0
    | cons a k ih =>
      rw [List.reverse_cons]
      exact h1 _ a ih
  have z := q l.reverse
  rw [List.reverse_reverse] at z
  exact z
/-- behind all steps -/
theorem smSteps_says {c x : Int} (x0 : 0 ≤ x) (x1 : x ≤ c) (ss : List Stp) : (∀ s ∈ ss, s.ok c) → SmOk c (smSteps c ss) ∧ SmSays (smSteps c ss) x (stepsF c ss (x, 0)).2 (placeF c (sideF (smSteps c ss).turned) (stepsF c ss (x, 0)).1) := by
  refine snoc_ind (M := fun ss => (∀ s ∈ ss, s.ok c) → SmOk c (smSteps c ss) ∧ SmSays (smSteps c ss) x (stepsF c ss (x, 0)).2 (placeF c (sideF (smSteps c ss).turned) (stepsF c ss (x, 0)).1)) (fun _ => says_start c x x0 x1) (fun us s ih hs => ?_) ss
  have hd : ∀ s ∈ us, s.ok c := fun z h => hs z (List.mem_append_left _ h)
  obtain ⟨ok, sy⟩ := ih hd
  obtain ⟨r0, r1, _⟩ := stepsF_in (c := c) (ss := us) (r := x) (t := 0) hd x0 x1 (Int.le_refl 0)
  have hg := hs s (List.mem_append_right _ List.mem_cons_self)
  rw [smSteps_more, stepsF_one]
  exact ⟨smOk_step ok hg, says_step ok hg r0 r1 sy⟩
theorem smEnd_says {c : Int} {m : Sm} {x total place : Int} (ok : SmOk c m) (h : SmSays m x total place) : SmOk c (smEnd m) ∧ SmSays (smEnd m) x total place ∧ ((smEnd m).low = (smEnd m).high → (smEnd m).goal ≠ none) ∧ (smEnd m).turned = m.turned := by
  obtain ⟨low, high, extra, goal, turned⟩ := m
  obtain ⟨l0, lh, hc1, hg, he⟩ := ok
  simp only at l0 lh hc1 hg he
  obtain ⟨e1, e2⟩ := h
  simp only at e1 e2
  unfold smEnd
  by_cases q : low = high ∧ goal = none
  · simp only [q, and_self, if_true]
    obtain ⟨q1, q2⟩ := q
    subst q1 q2
    simp only at e2
    refine ⟨⟨l0, Int.le_refl _, hc1, fun z hz => ?_, fun h => nomatch h⟩, ⟨e1, ?_⟩, (fun _ h => nomatch h), by first | rfl | trivial⟩
    · cases hz
      exact ⟨l0, hc1⟩
    · rw [e2]
      show clampF low low x = low
      unfold clampF
      omega
  · simp only [q, if_false]
    exact ⟨⟨l0, lh, hc1, hg, he⟩, ⟨e1, e2⟩, fun h1 h2 => q ⟨h1, h2⟩, by first | rfl | trivial⟩
/-- the number of turns -/
def turnsF (ss : List Stp) : Nat := (ss.filter fun s => match s with | .turn => true | .meet _ _ => false).length
theorem turned_is (c : Int) (ss : List Stp) : (smSteps c ss).turned = decide (turnsF ss % 2 = 1) := by
  refine snoc_ind (M := fun ss => (smSteps c ss).turned = decide (turnsF ss % 2 = 1)) rfl (fun us s ih => ?_) ss
  rw [smSteps_more]
  have ef : turnsF (us ++ [s]) = turnsF us + (match s with | .turn => 1 | .meet _ _ => 0) := by
    unfold turnsF
    rw [List.filter_append, List.length_append]
    cases s <;> rfl
  rw [ef]
  cases s with
  | turn =>
    show (!(smSteps c us).turned) = _
    rw [ih]
    by_cases q : turnsF us % 2 = 1
    · rw [decide_eq_true q, decide_eq_false (by simp only; omega)]
      rfl
    · rw [decide_eq_false q, decide_eq_true (by simp only; omega)]
      rfl
  | meet b z =>
    have et : (smStep c (smSteps c us) (.meet b z)).turned = (smSteps c us).turned := by
      unfold smStep
      cases (smSteps c us).goal <;> rfl
    rw [et, ih]
    rfl
end Cc

/-! The play of steps one by one; three more rules. -/
namespace Cc
open PySem PySem.Spec PyProof.Rows L2
def carryF (c : Int) : List Stp → Int → List Int
  | [], _ => []
  | s :: ss, r => (stepF c s r).2 :: carryF c ss (stepF c s r).1
theorem stepsF_fst (c : Int) : ∀ (ss : List Stp) (r t u : Int), (stepsF c ss (r, t)).1 = (stepsF c ss (r, u)).1
  | [], _, _, _ => rfl
  | s :: ss, r, t, u => stepsF_fst c ss (stepF c s r).1 _ _
theorem carryF_one (c : Int) (s : Stp) : ∀ (ss : List Stp) (r : Int), carryF c (ss ++ [s]) r = carryF c ss r ++ [(stepF c s (stepsF c ss (r, 0)).1).2]
  | [], r => rfl
  | z :: ss, r => by
    show (stepF c z r).2 :: carryF c (ss ++ [s]) (stepF c z r).1 = (stepF c z r).2 :: (carryF c ss (stepF c z r).1 ++ [(stepF c s (stepsF c ss ((stepF c z r).1, 0 + (stepF c z r).2)).1).2])
    rw [carryF_one c s ss (stepF c z r).1, stepsF_fst c ss (stepF c z r).1 0 (0 + (stepF c z r).2)]
theorem carryF_len (c : Int) : ∀ (ss : List Stp) (r : Int), (carryF c ss r).length = ss.length
  | [], _ => rfl
  | s :: ss, r => by
    show (carryF c ss (stepF c s r).1).length + 1 = ss.length + 1
    rw [carryF_len c ss]
theorem carryF_sum (c : Int) : ∀ (ss : List Stp) (r : Int), (carryF c ss r).sum = (stepsF c ss (r, 0)).2
  | [], _ => rfl
  | s :: ss, r => by
    show ((stepF c s r).2 :: carryF c ss (stepF c s r).1).sum = (stepsF c ss ((stepF c s r).1, 0 + (stepF c s r).2)).2
    rw [List.sum_cons, carryF_sum c ss, stepsF_add c ss (stepF c s r).1 (0 + (stepF c s r).2), Int.zero_add]
theorem nuMax3_int (a b z : Int) : nuMax3 (.int a) (.int b) (.int z) = some (.int (if (if a < b then b else a) < z then z else (if a < b then b else a))) := by
  by_cases h : a < b
  · by_cases h2 : b < z <;> simp [nuMax3, nuMax2, nuLt, nuCB, h, h2]
  · by_cases h2 : a < z <;> simp [nuMax3, nuMax2, nuLt, nuCB, h, h2]
/-- a <= b <= c <= d, a test -/
def tChain3 (r1 r2 r3 : R2) (ta tb tc td : TE) : TT := fun σ H Q => ta σ H fun x H1 => tb σ H1 fun y H2 => r1 x y H2 fun z H3 => ∃ k, z = .bl k ∧
  (if k = true then tc σ H3 fun x2 H4 => r2 y x2 H4 fun z2 H5 => ∃ k2, z2 = .bl k2 ∧ (if k2 = true then td σ H5 fun x3 H6 => r3 x2 x3 H6 fun z3 H7 => ∃ k3, z3 = .bl k3 ∧ Q k3 H7 else Q false H5) else Q false H3)
section
variable {X : Cx} {a b c d : Expr} {ta tb tc td : TE} {pos : Pos}
theorem pt_chain3 {o1 o2 o3 : CmpOp} {r1 r2 r3 : R2} (h1 : OpR X (compareOp o1) r1) (h2 : OpR X (compareOp o2) r2) (h3 : OpR X (compareOp o3) r3) (ha : PE X a ta) (hb : PE X b tb) (hc : PE X c tc) (hd : PE X d td)
    (hm : lastMarks [o1, o2, o3] [b, c, d] = false := by with_unfolding_all rfl) : PT X (.Compare a [o1, o2, o3] [b, c, d] pos) (tChain3 r1 r2 r3 ta tb tc td) := by
  refine ⟨fun pn s sg Hh Qq J h => isTrue_chain ?_ hm⟩
  refine thn (ha.run pn s sg Hh _ J h) fun v1 z1 ⟨x1, G1, J1, e1, p1⟩ => test_link ?_
  refine thn (hb.run pn z1 sg G1 _ J1 p1) fun v2 z2 ⟨x2, G2, J2, e2, p2⟩ => ?_
  refine thn (h1 pn z2 sg G2 x1 x2 v1 v2 _ J2 e1 e2 p2) fun v3 z3 ⟨y1, G3, J3, e3, k1, f1, p3⟩ => ?_
  subst f1
  cases e3
  refine wpAny_truthy_bool ?_
  cases k1 with
  | false => exact ite_ff ⟨G3, J3, p3⟩
  | true =>
    refine ite_tt (test_link ?_)
    refine thn (hc.run pn z3 sg G3 _ J3 p3) fun v4 z4 ⟨x3, G4, J4, e4, p4⟩ => ?_
    refine thn (h2 pn z4 sg G4 x2 x3 v2 v4 _ J4 e2 e4 p4) fun v5 z5 ⟨y2, G5, J5, e5, k2, f2, p5⟩ => ?_
    subst f2
    cases e5
    refine wpAny_truthy_bool ?_
    cases k2 with
    | false => exact ite_ff ⟨G5, J5, p5⟩
    | true =>
      refine ite_tt (test_last ?_)
      refine thn (hd.run pn z5 sg G5 _ J5 p5) fun v6 z6 ⟨x4, G6, J6, e6, p6⟩ => ?_
      refine thn (h3 pn z6 sg G6 x3 x4 v4 v6 _ J6 e4 e6 p6) fun v7 z7 ⟨y3, G7, J7, e7, k3, f3, p7⟩ => ?_
      subst f3
      cases e7
      exact wpAny_truthy_bool ⟨G7, J7, p7⟩
end
end Cc

/-! Many rounds: pairs of rounds are alike from the third on; the steps of all rounds one after another. -/
namespace Cc
open PySem PySem.Spec PyProof.Rows L2
theorem roundsF_plus (c : Int) (ss : List Stp) : ∀ (m n : Nat) (x : Int × Int), roundsF c ss (m + n) x = roundsF c ss n (roundsF c ss m x)
  | 0, n, x => by
    rw [Nat.zero_add]
    rfl
  | m + 1, n, x => by
    rw [Nat.succ_add]
    exact roundsF_plus c ss m n (stepsF c ss x)
theorem roundsF_sum (c : Int) (ss : List Stp) : ∀ (n : Nat) (r t : Int), roundsF c ss n (r, t) = ((roundsF c ss n (r, 0)).1, t + (roundsF c ss n (r, 0)).2)
  | 0, r, t => by
    show (r, t) = (r, t + 0)
    rw [Int.add_zero]
  | n + 1, r, t => by
    rw [roundsF_succ, roundsF_succ, roundsF_sum c ss n r t, stepsF_add c ss _ (t + _), stepsF_add c ss _ (roundsF c ss n (r, 0)).2]
    simp only [Prod.mk.injEq, true_and]
    omega
theorem pair_is (c : Int) (ss : List Stp) (x : Int × Int) : stepsF c (ss ++ ss) x = roundsF c ss 2 x := stepsF_app c ss ss x
theorem turnsF_pair (ss : List Stp) : turnsF (ss ++ ss) % 2 = 0 := by
  unfold turnsF
  rw [List.filter_append, List.length_append]
  omega
/-- a pair of rounds, done again, leaves the room as it is -/
theorem pair_twice {c x : Int} {ss : List Stp} (hs : ∀ s ∈ ss, s.ok c) (x0 : 0 ≤ x) (x1 : x ≤ c) : (stepsF c (ss ++ ss) ((stepsF c (ss ++ ss) (x, 0)).1, 0)).1 = (stepsF c (ss ++ ss) (x, 0)).1 := by
  have hp : ∀ s ∈ ss ++ ss, s.ok c := fun s h => (List.mem_append.mp h).elim (hs s) (hs s)
  obtain ⟨y0, y1, _⟩ := stepsF_in (t := 0) hp x0 x1 (Int.le_refl 0)
  obtain ⟨ok, _, e1⟩ := smSteps_says x0 x1 (ss ++ ss) hp
  obtain ⟨_, _, e2⟩ := smSteps_says y0 y1 (ss ++ ss) hp
  have ht : (smSteps c (ss ++ ss)).turned = false := by
    rw [turned_is, turnsF_pair]
    rfl
  rw [ht] at e1 e2
  generalize (stepsF c (ss ++ ss) ((stepsF c (ss ++ ss) (x, 0)).1, 0)).1 = z at *
  generalize (stepsF c (ss ++ ss) (x, 0)).1 = y at *
  generalize smSteps c (ss ++ ss) = m at *
  obtain ⟨low, high, extra, goal, turned⟩ := m
  have lh := ok.lh
  simp only at e1 e2 lh
  cases goal with
  | none =>
    simp [placeF, sideF, clampF] at e1 e2
    omega
  | some g =>
    simp [placeF, sideF] at e1 e2
    omega
/-- from a number that a pair leaves: p pairs -/
theorem pairs_all {c y : Int} {ss : List Stp} (h : (stepsF c (ss ++ ss) (y, 0)).1 = y) : ∀ p : Nat, roundsF c ss (2 * p) (y, 0) = (y, p * (stepsF c (ss ++ ss) (y, 0)).2)
  | 0 => by
    show (y, 0) = (y, ((0 : Nat) : Int) * _)
    simp
  | p + 1 => by
    have e : 2 * (p + 1) = 2 * p + 2 := by omega
    rw [e, roundsF_plus, pairs_all h p, ← pair_is, stepsF_add, h]
    simp only [Prod.mk.injEq, true_and]
    rw [Int.natCast_succ, Int.add_mul, Int.one_mul]
theorem rounds_fix {c r : Int} {ss : List Stp} (hs : ∀ s ∈ ss, s.ok c) (r0 : 0 ≤ r) (r1 : r ≤ c) (m : Nat) : (stepsF c (ss ++ ss) ((roundsF c ss (m + 2) (r, 0)).1, 0)).1 = (roundsF c ss (m + 2) (r, 0)).1 := by
  obtain ⟨a0, a1, _⟩ := roundsF_in (n := m) (t := 0) hs r0 r1 (Int.le_refl 0)
  have e : (roundsF c ss (m + 2) (r, 0)).1 = (stepsF c (ss ++ ss) ((roundsF c ss m (r, 0)).1, 0)).1 := by
    rw [roundsF_plus, pair_is, roundsF_sum c ss 2 (roundsF c ss m (r, 0)).1 (roundsF c ss m (r, 0)).2]
  rw [e]
  exact pair_twice hs a0 a1
/-- m + 2 rounds, then p pairs -/
theorem rounds_pairs {c r : Int} {ss : List Stp} (hs : ∀ s ∈ ss, s.ok c) (r0 : 0 ≤ r) (r1 : r ≤ c) (m p : Nat) :
    roundsF c ss (m + 2 + 2 * p) (r, 0) = ((roundsF c ss (m + 2) (r, 0)).1, (roundsF c ss (m + 2) (r, 0)).2 + p * (stepsF c (ss ++ ss) ((roundsF c ss (m + 2) (r, 0)).1, 0)).2) := by
  rw [roundsF_plus c ss (m + 2), roundsF_sum c ss (2 * p) (roundsF c ss (m + 2) (r, 0)).1 (roundsF c ss (m + 2) (r, 0)).2, pairs_all (rounds_fix hs r0 r1 m)]
theorem afterF_is {c r : Int} {ss : List Stp} (hs : ∀ s ∈ ss, s.ok c) (r0 : 0 ≤ r) (r1 : r ≤ c) (n : Nat) : afterF c ss r n = roundsF c ss n (r, 0) := rfl
/-- the code's own way: two or three rounds singly, the rest in pairs all alike -/
theorem few_is {c r : Int} {ss : List Stp} (hs : ∀ s ∈ ss, s.ok c) (r0 : 0 ≤ r) (r1 : r ≤ c) {n : Nat} (h : 2 ≤ n) :
    afterF c ss r n = ((stepsF c (ss ++ ss) ((roundsF c ss (2 + n % 2) (r, 0)).1, 0)).1, (roundsF c ss (2 + n % 2) (r, 0)).2 + ((n - (2 + n % 2)) / 2 : Nat) * (stepsF c (ss ++ ss) ((roundsF c ss (2 + n % 2) (r, 0)).1, 0)).2) := by
  have e : n = n % 2 + 2 + 2 * ((n - (2 + n % 2)) / 2) := by omega
  have h1 := rounds_pairs hs r0 r1 (n % 2) ((n - (2 + n % 2)) / 2)
  rw [← e] at h1
  unfold afterF
  rw [h1, Nat.add_comm 2 (n % 2), rounds_fix hs r0 r1]
/-- two parts of the rounds -/
theorem rounds_parts (c : Int) (ss : List Stp) (r : Int) (m n : Nat) : (roundsF c ss (m + n) (r, 0)).1 = (roundsF c ss n ((roundsF c ss m (r, 0)).1, 0)).1 ∧ (roundsF c ss (m + n) (r, 0)).2 = (roundsF c ss m (r, 0)).2 + (roundsF c ss n ((roundsF c ss m (r, 0)).1, 0)).2 := by
  rw [roundsF_plus, roundsF_sum c ss n (roundsF c ss m (r, 0)).1 (roundsF c ss m (r, 0)).2]
  exact ⟨rfl, rfl⟩
/-- each further pair carries what the third and the fourth round carry -/
theorem rounds_even {c r : Int} {ss : List Stp} (hs : ∀ s ∈ ss, s.ok c) (r0 : 0 ≤ r) (r1 : r ≤ c) (p : Nat) :
    (roundsF c ss (2 * p + 2) (r, 0)).2 = (roundsF c ss 2 (r, 0)).2 + p * ((roundsF c ss 4 (r, 0)).2 - (roundsF c ss 2 (r, 0)).2) := by
  have e : 2 * p + 2 = 0 + 2 + 2 * p := by omega
  have h1 := rounds_pairs hs r0 r1 0 p
  have h2 := rounds_pairs hs r0 r1 0 1
  simp only [Nat.zero_add] at h1 h2
  rw [e, Nat.zero_add, h1, show 4 = 2 + 2 * 1 from rfl, h2]
  simp only
  congr 1
  rw [Int.natCast_one, Int.one_mul, Int.add_comm (roundsF c ss 2 (r, 0)).2, Int.add_sub_cancel]
/-! ### the steps of all rounds -/
def cycF (ss : List Stp) (k n : Nat) : List Stp := (List.range n).map fun i => ss.getD ((k + i) % ss.length) .turn
theorem cycF_succ (ss : List Stp) (k n : Nat) : cycF ss k (n + 1) = cycF ss k n ++ [ss.getD ((k + n) % ss.length) .turn] := by
  unfold cycF
  rw [List.range_succ, List.map_append]
  rfl
theorem cycF_len (ss : List Stp) (k n : Nat) : (cycF ss k n).length = n := by
  unfold cycF
  simp only [List.length_range, List.length_map]
theorem getD_in {ss : List Stp} {i : Nat} (h : i < ss.length) : ss.getD i .turn = ss[i] := by simp [List.getD, h]
theorem getD_out {ss : List Stp} {i : Nat} (h : ss.length ≤ i) : ss.getD i .turn = .turn := by simp [List.getD, h]
theorem cycF_ok {c : Int} {ss : List Stp} (hs : ∀ s ∈ ss, s.ok c) (k n : Nat) : ∀ s ∈ cycF ss k n, s.ok c := fun s h => by
  obtain ⟨i, _, rfl⟩ := List.mem_map.mp h
  by_cases q : (k + i) % ss.length < ss.length
  · rw [getD_in q]
    exact hs _ (List.getElem_mem q)
  · rw [getD_out (by omega)]
    trivial
theorem rep_get {ss : List Stp} : ∀ (k i : Nat), i < k * ss.length → (List.replicate k ss).flatten[i]? = some (ss.getD (i % ss.length) .turn)
  | 0, i, h => by omega
  | k + 1, i, h => by
    rw [List.replicate_succ (n := k), List.flatten_cons]
    by_cases q : i < ss.length
    · rw [List.getElem?_append_left q, Nat.mod_eq_of_lt q, List.getElem?_eq_getElem q, getD_in q]
    · have h1 : (k + 1) * ss.length = k * ss.length + ss.length := Nat.succ_mul k ss.length
      rw [List.getElem?_append_right (by omega), rep_get k (i - ss.length) (by omega)]
      congr 2
      rw [Nat.mod_eq_sub_mod (by omega : i ≥ ss.length)]
theorem rep_take {ss : List Stp} {k n : Nat} (h : n ≤ k * ss.length) : ((List.replicate k ss).flatten).take n = cycF ss 0 n := by
  refine List.ext_getElem? fun i => ?_
  by_cases q : i < n
  · rw [List.getElem?_take_of_lt q, rep_get k i (by omega)]
    unfold cycF
    rw [List.getElem?_map, List.getElem?_range q]
    show _ = some (ss.getD ((0 + i) % ss.length) .turn)
    rw [Nat.zero_add]
  · rw [List.getElem?_eq_none (by rw [List.length_take]; omega), List.getElem?_eq_none (by rw [cycF_len]; omega)]
theorem Steps.rep {H : Hp} {vs : List V} {ss : List Stp} (h : Steps H vs ss) : ∀ k : Nat, Steps H (List.replicate k vs).flatten (List.replicate k ss).flatten
  | 0 => .nil
  | k + 1 => by
    simp only [List.replicate_succ, List.flatten_cons]
    exact h.append (Steps.rep h k)
theorem eqv_selfs (ns : List Int) : PyData.eqv (.list (ns.map PyData.int)) (.list (ns.map PyData.int)) = true := by
  have q : ∀ ns : List Int, PyData.eqvAll (ns.map PyData.int) (ns.map PyData.int) = true := fun ns => by
    induction ns with
    | nil => simp [PyData.eqvAll]
    | cons a ns ih => simp [PyData.eqvAll, PyData.eqv, ih]
  simp [PyData.eqv, q ns]
end Cc

/-! A rule of our own: a set of ints by two clauses, {e for a in xs for b in ys if t}. -/
namespace Cc
open PySem PySem.Spec PyProof.Rows L2
/-- the comprehension: the first clause has no test -/
abbrev scE (el ta ia tb ib : Expr) (fb : List Expr) (sc : Scope) (ps : Pos) : Expr := .SetComp el [⟨ta, ia, [], 0⟩, ⟨tb, ib, fb, 0⟩] sc ps
section
variable {pr : Program} {ww : World} {A : Around} {R : Result → Shared → Prop} {st : Shared} {el ta ia tb ib : Expr} {fb : List Expr} {sc : Scope} {ps : Pos} {it ac : Value} {en : Env}
theorem noX {α : Type} {M : Model} {t : Sem α} {G : α → Shared → Prop} {E : Value → Shared → Prop} (h : wpAny M A t G (fun _ _ => False) st) : wpAny M A t G E st := wpAny_mono h (fun _ _ q => q) fun _ _ q => q.elim
theorem sc_outer (hf : ∀ x, foldedSetIterable ib en x = pure x) (J : Nat → Shared → Prop)
    (go : ∀ n z, J n z → wpAny (model pr ww) A (pyNext it) (fun r z1 => match r with
      | none => R (.ok .next) z1
      | some v => wpAny (model pr ww) A (letOwnedTupleGo ta it v) (fun _ z2 => wpAny (model pr ww) A (assign ta en v) (fun _ z3 => wpAny (model pr ww) A (eval ib en) (fun x z4 => wpAny (model pr ww) A (pyIter x) (fun i2 z5 =>
          codeAny (model pr ww) A (.compStart (scE el ta ia tb ib fb sc ps) 1 i2 ac en) (fun r z6 => match r with | .ok _ => ∃ m, m < n ∧ J m z6 | .error _ => False) z5)
          (fun _ _ => False) z4) (fun _ _ => False) z3) (fun _ _ => False) z2) (fun _ _ => False) z1) (fun _ _ => False) z) (n : Nat) (h : J n st) :
    codeAny (model pr ww) A (.compLoop (scE el ta ia tb ib fb sc ps) 0 it ac en) R st := by
  refine codeAny_loop rfl J (fun n z hz => ?_) n h
  show wpAny _ A ((compTurn (scE el ta ia tb ib fb sc ps) 0 it ac en).onRaise (fun x => do noteFrame x en; theTreesLotGoes x)) _ _ z
  refine wpAny_noted ?_
  have tree : compTurn (scE el ta ia tb ib fb sc ps) 0 it ac en = (do
      standAt ia.pos
      match ← pyNext it with
      | none => pure (.done .next)
      | some v =>
        letOwnedTupleGo ta it v
        assign ta en v
        let mut good := true
        for c in ([] : List Expr) do
          if good then good ← isTrue c en (eval c en)
        if good then
          let x ← eval ib en
          standAt ib.pos
          let x ← foldedSetIterable ib en x
          let _ ← runOwn (.compStart (scE el ta ia tb ib fb sc ps) 1 (← holding [x] (pyIter x)) ac en) en
        again (.compLoop (scE el ta ia tb ib fb sc ps) 0 it ac en)) := by rfl
  rw [tree]
  refine wpAny_bind (wpAny_standAt (wpAny_bind (wpAny_mono (go n z hz) (fun r z1 h1 => ?_) fun _ _ q => q.elim)))
  cases r with
  | none => exact wpAny_pure h1
  | some v =>
    refine wpAny_bind (wpAny_mono h1 (fun _ z2 h2 => wpAny_bind (wpAny_mono h2 (fun _ z3 h3 => ?_) fun _ _ q => q.elim)) fun _ _ q => q.elim)
    refine wpAny_bind (wpAny_of_eq (a := true) (by rfl) ?_)
    refine wpAny_bind (wpAny_mono h3 (fun x z4 h4 => ?_) fun _ _ q => q.elim)
    refine wpAny_bind (wpAny_standAt (wpAny_bind (wpAny_of_eq (hf x) (wpAny_bind (wpAny_holding (wpAny_mono h4 (fun i2 z5 h5 => ?_) fun _ _ q => q.elim))))))
    refine wpAny_bind (wpAny_runOwn (M := model pr ww) ?_)
    rw [Around.mark_none]
    refine codeAny_mono h5 fun r z6 h6 => ?_
    cases r with
    | error e => exact h6.elim
    | ok f => first
      | exact wpAny_pure ⟨rfl, h6⟩
      | exact wpAny_bind (wpAny_pure (wpAny_pure ⟨rfl, h6⟩))
theorem sc_inner (J : Nat → Shared → Prop)
    (go : ∀ n z, J n z → wpAny (model pr ww) A (pyNext it) (fun r z1 => match r with
      | none => R (.ok .next) z1
      | some v => wpAny (model pr ww) A (letOwnedTupleGo tb it v) (fun _ z2 => wpAny (model pr ww) A (assign tb en v) (fun _ z3 =>
          wpAny (model pr ww) A (forIn fb true fun c r => if r = true then do let ok ← isTrue c en (eval c en); pure (ForInStep.yield ok) else pure (ForInStep.yield r)) (fun good z4 =>
            if good = true then wpAny (model pr ww) A (eval el en) (fun x z5 => wpAny (model pr ww) A (call (.builtin "set.add") [ac, x]) (fun _ z6 => ∃ m, m < n ∧ J m z6) (fun _ _ => False) z5) (fun _ _ => False) z4
            else ∃ m, m < n ∧ J m z4) (fun _ _ => False) z3) (fun _ _ => False) z2) (fun _ _ => False) z1) (fun _ _ => False) z) (n : Nat) (h : J n st) :
    codeAny (model pr ww) A (.compLoop (scE el ta ia tb ib fb sc ps) 1 it ac en) R st := by
  refine codeAny_loop rfl J (fun n z hz => ?_) n h
  show wpAny _ A ((compTurn (scE el ta ia tb ib fb sc ps) 1 it ac en).onRaise (fun x => do noteFrame x en; theTreesLotGoes x)) _ _ z
  refine wpAny_noted ?_
  have tree : compTurn (scE el ta ia tb ib fb sc ps) 1 it ac en = (do
      standAt ib.pos
      match ← pyNext it with
      | none => pure (.done .next)
      | some v =>
        letOwnedTupleGo tb it v
        assign tb en v
        let mut good := true
        for c in fb do
          if good then good ← isTrue c en (eval c en)
        if good then
          (do let v ← eval el en; standAt el.pos; let _ ← call (.builtin "set.add") [ac, v])
        again (.compLoop (scE el ta ia tb ib fb sc ps) 1 it ac en)) := by rfl
  rw [tree]
  refine wpAny_bind (wpAny_standAt (wpAny_bind (wpAny_mono (go n z hz) (fun r z1 h1 => ?_) fun _ _ q => q.elim)))
  cases r with
  | none => exact wpAny_pure h1
  | some v =>
    refine wpAny_bind (wpAny_mono h1 (fun _ z2 h2 => wpAny_bind (wpAny_mono h2 (fun _ z3 h3 => ?_) fun _ _ q => q.elim)) fun _ _ q => q.elim)
    refine wpAny_bind (wpAny_mono h3 (fun good z4 h4 => ?_) fun _ _ q => q.elim)
    cases good with
    | false => exact wpAny_pure ⟨rfl, h4⟩
    | true => exact wpAny_bind (wpAny_bind (wpAny_mono h4 (fun x z5 h5 => wpAny_bind (wpAny_standAt (wpAny_bind (wpAny_mono h5 (fun _ z6 h6 => wpAny_pure (wpAny_pure ⟨rfl, h6⟩)) fun _ _ q => q.elim)))) fun _ _ q => q.elim))
/-- the second clause begins -/
theorem sc_begin (h0 : codeAny (model pr ww) A (.compLoop (scE el ta ia tb ib fb sc ps) 1 it ac en) R st)
    (h : wpAny (model pr ww) A (pyIter it) (fun i2 z => codeAny (model pr ww) A (.compLoop (scE el ta ia tb ib fb sc ps) 1 i2 ac en) R z) (fun _ _ => False) st) :
    codeAny (model pr ww) A (.compStart (scE el ta ia tb ib fb sc ps) 1 it ac en) R st := by
  refine codeAny_of_tree ?_
  show wpAny _ _ ((compStart (scE el ta ia tb ib fb sc ps) 1 it ac en).onRaise (fun x => do noteFrame x en; standAt theWindowsPlace)) _ _ st
  refine wpAny_notedAt ?_
  unfold compStart
  show wpAny _ _ (ask >>= _) _ _ st
  apply wpAny_bind; refine wpAny_askSetting (wpAny_ite ?_)
  split
  · first
      | exact wpAny_pure ⟨rfl, h0⟩
      | exact wpAny_bind (wpAny_pure (wpAny_pure ⟨rfl, h0⟩))
  · apply wpAny_bind; refine wpAny_rule ?_
    show wpAny _ _ (standAt ib.pos >>= _) _ _ st
    exact wpAny_bind (wpAny_standAt (wpAny_bind (wpAny_mono h (fun i2 z q => wpAny_pure ⟨rfl, q⟩) fun _ _ q => q.elim)))
end
/-- its reading: D the new set; behind the first clause's store the second source's own loop, from which Nx is reached -/
def tSc2 (w : World) (wi : TI) (g : TG) (wi1 : TI) (g1 : TG) (tt1 : TT) (te : TE) (vs vs1 : List Nat) : TE := fun sg G Q => wi sg G fun J G1 => ∀ D, G1 D = none →
  ∃ W : Nat → Nat → Hp → Prop, (∃ m, W 0 m (upd G1 D (SetO w D (fun _ => false) 0))) ∧ ∀ i m G, W i m G →
    (J.stop i G ∧ Q (.ref D) G) ∨ (J.go i G ∧ ∃ Nx : Hp → Prop, (∀ G', Nx G' → ∃ m', m' < m ∧ W (i + 1) m' G') ∧ ∀ x G', J.yld i G x G' →
      g x (wipe sg vs) G' fun sg2 G2 => wipe sg2 vs = wipe sg vs ∧ wi1 sg2 G2 fun J1 G3 => ∃ W1 : Nat → Nat → Hp → Prop, (∃ m, W1 0 m G3) ∧ ∀ j k G, W1 j k G →
        (J1.stop j G ∧ Nx G) ∨ (J1.go j G ∧ ∃ Ny : Hp → Prop, (∀ G', Ny G' → ∃ k', k' < k ∧ W1 (j + 1) k' G') ∧ ∀ x G', J1.yld j G x G' →
          g1 x (wipe sg2 vs1) G' fun sg3 G4 => wipe sg3 vs1 = wipe sg2 vs1 ∧ tt1 sg3 G4 fun b G5 =>
            if b = true then te sg3 G5 fun y G6 => ∃ (c : Int) (S : Int → Bool) (n : Nat), y = .int c ∧ G6 D = some (SetO w D S n) ∧ n + 1 < scanBound ∧ Ny (upd G6 D (SetO w D (fun j => S j || decide (j = c)) (if S c = true then n else n + 1))) else Ny G5))
section
variable {X : Cx}
theorem pe_sc2 {el ta ia tb ib : Expr} {fb : List Expr} {sc : Scope} {own : List (Str × Nat)} {vs1 : List Nat} {ps : Pos} {wi wi1 : TI} {g g1 : TG} {tt1 : TT} {te : TE} (hc : X.calm = true) (hN : X.N.Nodup) (hi : PI X ta ia wi) (ok : BlkOk X.N X.env.scope sc own) (hv : ∀ i ∈ vs1, i ∈ own.map (·.2))
    (hg : ∀ (s : Shared) (H : Hp) (C : Addr) (cl : List (Str × Addr)) (fp : List Addr), PG (X.blk s H sc (compEnvC sc cl C X.env) fp) ta g)
    (hi1 : ∀ (s : Shared) (H : Hp) (C : Addr) (cl : List (Str × Addr)) (fp : List Addr), PI (X.blk s H sc (compEnvC sc cl C X.env) fp) tb ib wi1)
    (hg1 : ∀ (s : Shared) (H : Hp) (C : Addr) (cl : List (Str × Addr)) (fp : List Addr), PG (X.blk s H sc (compEnvC sc cl C X.env) fp) tb g1)
    (ht1 : ∀ (s : Shared) (H : Hp) (C : Addr) (cl : List (Str × Addr)) (fp : List Addr), PTs (X.blk s H sc (compEnvC sc cl C X.env) fp) fb tt1)
    (he : ∀ (s : Shared) (H : Hp) (C : Addr) (cl : List (Str × Addr)) (fp : List Addr), PE (X.blk s H sc (compEnvC sc cl C X.env) fp) el te)
    (hs : ∀ x, foldedSetIterable ia X.env x = pure x := by intro _; rfl) (hs1 : ∀ env x, foldedSetIterable ib env x = pure x := by intro _ _; rfl) :
    PE X (scE el ta ia tb ib fb sc ps) (tSc2 X.w wi g wi1 g1 tt1 te (own.map (·.2)) vs1) := by
  refine ⟨fun pz z0 sg G0 Qq K0 h => ?_⟩
  rw [PpSet.eval_SetComp]
  have frees : ∀ y ∈ sc.names, y.2 = .free → ∃ c, X.env.cells.lookup y.1 = some c := fun y hy e => K0.ok.has _ ((ok.free y hy e).elim (fun a => .inl a) fun a => .inr a)
  refine wpAny_comprehension_free (use := none) rfl hs (closure_ok frees) ok.kind (fun y hy e => (ok.uniq y hy).trans (congrArg some e)) (thn (hi.run pz z0 sg G0 _ K0 h) fun _ z1 h1 => thn h1 fun iv z2 h2 => ?_)
  obtain ⟨it, fp, tn, Jt, G2, rfl, K2, T, t2, f2, q⟩ := h2
  refine PpSet.newSet_ok (newEnv_comp ?_)
  -- the new set, at D
  obtain ⟨D, hD⟩ : ∃ D, D = z2.heap.objs.size := ⟨_, rfl⟩
  rw [← hD]
  have freeD : G2 D = none := K2.hok.fresh (Nat.le_of_eq hD.symm)
  obtain ⟨W, ⟨m0, w0⟩, turn⟩ := q D freeD
  obtain ⟨z3, hz3⟩ : ∃ z3 : Shared, z3 = { z2 with heap := z2.heap.push { cls := .type "set", dict := none, data := .set #[] 0 (.fresh 0 0 (!X.w.params.followText "set-order")) } } := ⟨_, rfl⟩
  have p3 : z3.heap = z2.heap.push { cls := .type "set", dict := none, data := .set #[] 0 (.fresh 0 0 (!X.w.params.followText "set-order")) } := by rw [hz3]
  have keep3 : ∀ b o, z2.heap.get? b = some o → z3.heap.get? b = some o := fun b o e => by
    rw [p3]
    exact Heap.get?_push_of_some (h := z2.heap) _ e
  have K3 : Inv X pz sg (upd G2 D (SetO X.w D (fun _ => false) 0)) z3 := by
    rw [hz3]
    exact K2.laid (t' := z2.toks) (fun b o e => Heap.get?_push_of_some _ e) (Nat.le_of_eq hD.symm) (hD ▸ setO_new (setR_fresh X.w))
  have old : ∀ b ∈ fp, b < z2.heap.objs.size := fun b hb => (T.obj _ _ t2 b hb).elim fun _ e => Heap.lt_size e.1
  have f3 : ∀ b ∈ fp, FpOk X pz (upd G2 D (SetO X.w D (fun _ => false) 0)) b ∧ b < z3.heap.objs.size := fun b hb =>
    ⟨⟨by rw [upd_ne (by rw [hD]; exact Nat.ne_of_lt (old b hb))]; exact (f2 b hb).1, (f2 b hb).2⟩, by rw [p3, Heap.size_push]; exact Nat.lt_succ_of_lt (old b hb)⟩
  have K4 := block_start K3 ok hN f3
  have nf : ∀ b ∈ fp, upd G2 D (SetO X.w D (fun _ => false) 0) b = none := fun b hb => (f3 b hb).1.1
  -- the block's context
  have Bg := hg z3 (upd G2 D (SetO X.w D (fun _ => false) 0)) z3.heap.objs.size (cellsFrom (z3.heap.objs.size + 1) sc.names (cloFrom X.env.cells sc.names [])) fp
  have Bi := hi1 z3 (upd G2 D (SetO X.w D (fun _ => false) 0)) z3.heap.objs.size (cellsFrom (z3.heap.objs.size + 1) sc.names (cloFrom X.env.cells sc.names [])) fp
  have Bh := hg1 z3 (upd G2 D (SetO X.w D (fun _ => false) 0)) z3.heap.objs.size (cellsFrom (z3.heap.objs.size + 1) sc.names (cloFrom X.env.cells sc.names [])) fp
  have Bt := ht1 z3 (upd G2 D (SetO X.w D (fun _ => false) 0)) z3.heap.objs.size (cellsFrom (z3.heap.objs.size + 1) sc.names (cloFrom X.env.cells sc.names [])) fp
  have Be := he z3 (upd G2 D (SetO X.w D (fun _ => false) 0)) z3.heap.objs.size (cellsFrom (z3.heap.objs.size + 1) sc.names (cloFrom X.env.cells sc.names [])) fp
  have goal : codeAny (model X.prog X.w) X.A (.compStart (scE el ta ia tb ib fb sc ps) 0 (.ref it) (.ref D) (compEnvC sc (cellsFrom (z3.heap.objs.size + 1) sc.names (cloFrom X.env.cells sc.names [])) z3.heap.objs.size X.env))
      (compPost (model X.prog X.w) X.A X.xe none (EP X pz sg Qq) (.ref D) z3.heap.objs.size) { z3 with heap := pushCells (z3.heap.push { cls := .type "dict", data := .dict #[] }) sc.names } := by
    obtain ⟨ce, hce⟩ : ∃ ce, ce = compEnvC sc (cellsFrom (z3.heap.objs.size + 1) sc.names (cloFrom X.env.cells sc.names [])) z3.heap.objs.size X.env := ⟨_, rfl⟩
    rw [← hce] at K4 Bg Bi Bh Bt Be ⊢
    have lc : ce.locals = z3.heap.objs.size := by rw [hce]; rfl
    obtain ⟨G3, hG3⟩ : ∃ G3, G3 = upd G2 D (SetO X.w D (fun _ => false) 0) := ⟨_, rfl⟩
    rw [← hG3] at K3 K4 Bg Bi Bh Bt Be w0 f3
    have nf3 : ∀ b ∈ fp, G3 b = none := fun b hb => (f3 b hb).1.1
    obtain ⟨z4, hz4⟩ : ∃ z4 : Shared, z4 = { z3 with heap := pushCells (z3.heap.push { cls := .type "dict", data := .dict #[] }) sc.names } := ⟨_, rfl⟩
    rw [← hz4] at K4 ⊢
    have t4 : tn 0 z4.heap := T.keep _ _ _ t2 fun b _ o e => by
      rw [hz4]
      exact pushCells_keeps _ _ _ _ (Heap.get?_push_of_some _ (keep3 b o e))
    -- the iterator's objects stay untracked
    have fpk : ∀ {sg' : L2.St} {G' : Hp} {z' : Shared}, Inv (X.blk z3 G3 sc ce fp) [] sg' G' z' → (∀ b ∈ fp, G' b = none) → ∀ b ∈ fp, FpOk (X.blk z3 G3 sc ce fp) [] G' b := fun Kk hn b hb =>
      ⟨hn b hb, (Kk.ok.exf b hb).1, Kk.ok.exfs b hb, .inl hb, fun x c e => (Kk.ok.exf b hb).2 x c e, fun p hp => by simp at hp⟩
    have loop : codeAny (model X.prog X.w) X.A (.compLoop (scE el ta ia tb ib fb sc ps) 0 (.ref it) (.ref D) ce) (compPost (model X.prog X.w) X.A X.xe none (EP X pz sg Qq) (.ref D) z3.heap.objs.size) z4 := by
      refine sc_outer (hs1 ce) (fun n z => ∃ i G, Inv (X.blk z3 G3 sc ce fp) [] (wipe sg (own.map (·.2))) G z ∧ tn i z.heap ∧ (∀ b ∈ fp, G b = none) ∧ W i n G) ?_ m0 ⟨0, G3, K4, t4, nf3, w0⟩
      rintro n z5 ⟨i, G5, K5, t5, n5, w5⟩
      rcases turn i n G5 w5 with ⟨halt, qq⟩ | ⟨go, Nx, hNx, step⟩
      · refine thnF (T.done (X.blk z3 G3 sc ce fp) rfl rfl rfl hc i [] z5 _ G5 (fun _ _ => False) K5 (fpk K5 n5) t5 halt) fun r z6 ⟨hr, K6⟩ => ?_
        subst hr
        have K7 : Inv X pz sg G5 z6 := K3.call' (ch := fp) K6.os K6.base K6.hok K6.bare fun b hb => ⟨(f3 b hb).1.2.2.2.1, (f3 b hb).1.2.1, (f3 b hb).1.2.2.2.2.1, (f3 b hb).1.2.2.2.2.2⟩
        have nC : G5 z3.heap.objs.size = none := lc ▸ (show G5 ce.locals = none from K6.free)
        obtain ⟨m, hm, _⟩ := K6.loc
        have ff := K3.fpOk (Nat.le_refl _) nC
        refine ⟨m, lc ▸ (show z6.heap.Ns ce.locals m from hm), fun h'' sb => ?_⟩
        obtain ⟨a0, a1, _, a3, a4, a5⟩ := ff
        exact ⟨.ref D, G5, K7.turned (t' := z6.toks) (fun b o hb e => (sb.2 b hb).trans e) a0 a1 a3 a4 a5, rfl, qq⟩
      · refine thnF (T.item (X.blk z3 G3 sc ce fp) rfl rfl rfl hc i [] z5 _ G5 (fun _ _ => False) K5 (fpk K5 n5) t5 go) fun r z6 ⟨u, hr, h6⟩ => ?_
        subst hr
        refine thnF h6 fun _ z7 ⟨x, G7, K7, r7, y7, t7, n7⟩ => ?_
        refine thnF (Bg.run _ z7 _ G7 x u _ (K7.pinned (fpk K7 n7) (T.obj _ _ t7)) r7 (step x G7 y7)) fun _ z8 ⟨sg8, G8, K8, w8, q8⟩ => ?_
        have len8 : (wipe sg (own.map (·.2))).length = sg8.length := by rw [← w8, wipe_length]
        -- the turn's end
        have fin : ∀ {z' : Shared} {G' : Hp}, Inv (X.blk z3 G3 sc ce fp) ([] ++ pinsAt fp z7.heap) (wipe sg8 vs1) G' z' → Nx G' → ∃ m, m < n ∧ ∃ i G, Inv (X.blk z3 G3 sc ce fp) [] (wipe sg (own.map (·.2))) G z' ∧ tn i z'.heap ∧ (∀ b ∈ fp, G b = none) ∧ W i m G := fun {z' G'} Kk nx => by
          obtain ⟨m', lt, w'⟩ := hNx G' nx
          have pin : ∀ b ∈ fp, ∀ o, z7.heap.get? b = some o → z'.heap.get? b = some o ∧ G' b = none := fun b hb o e =>
            let y := Kk.pin (b, o) (List.mem_append_right _ (List.mem_append_right _ (mem_pinsAt hb e)))
            ⟨y.1, y.2.1⟩
          refine ⟨m', lt, i + 1, G', (Kk.unpinned (pins := [])).weak (by rw [len8, wipe_length]) (fun j v e => ?_), T.keep _ _ _ t7 fun b hb o e => (pin b hb o e).1, fun b hb => ?_, w'⟩
          · rw [← w8] at e
            obtain ⟨e1, e2⟩ := wipe_some (σ := sg8) e
            rw [wipe_out fun y => e2 (hv j y)]
            exact e1
          · obtain ⟨o, e, _⟩ := T.obj _ _ t7 b hb
            exact (pin b hb o e).2
        refine thnF (Bi.run _ z8 sg8 G8 _ K8 q8) fun _ z9 h9 => thnF h9 fun iw z10 h10 => ?_
        obtain ⟨it1, fp1, tn1, J1, G10, rfl, K10, T1, t10, f10, W1, ⟨m1, w1⟩, turn1⟩ := h10
        have fpk1 : ∀ {G' : Hp}, (∀ b ∈ fp1, G' b = none) → ∀ b ∈ fp1, FpOk (X.blk z3 G3 sc ce fp) ([] ++ pinsAt fp z7.heap) G' b := fun hn b hb => ⟨hn b hb, (f10 b hb).2⟩
        have loop1 : codeAny (model X.prog X.w) X.A (.compLoop (scE el ta ia tb ib fb sc ps) 1 (.ref it1) (.ref D) ce)
            (fun r z' => match r with | .ok _ => ∃ m, m < n ∧ ∃ i G, Inv (X.blk z3 G3 sc ce fp) [] (wipe sg (own.map (·.2))) G z' ∧ tn i z'.heap ∧ (∀ b ∈ fp, G b = none) ∧ W i m G | .error _ => False) z10 := by
          refine sc_inner (fun k z => ∃ j G, Inv (X.blk z3 G3 sc ce fp) ([] ++ pinsAt fp z7.heap) (wipe sg8 vs1) G z ∧ tn1 j z.heap ∧ (∀ b ∈ fp1, G b = none) ∧ W1 j k G) ?_ m1 ⟨0, G10, K10.weak (wipe_length _ _) (fun j v e => (wipe_some e).1), t10, fun b hb => (f10 b hb).1, w1⟩
          rintro k z11 ⟨j, G11, K11, t11, n11, w11⟩
          rcases turn1 j k G11 w11 with ⟨halt1, nx1⟩ | ⟨go1, Ny, hNy, step1⟩
          · refine thnF (T1.done (X.blk z3 G3 sc ce fp) rfl rfl rfl hc j _ z11 (wipe sg8 vs1) G11 (fun _ _ => False) K11 (fpk1 n11) t11 halt1) fun r z12 ⟨hr, K12⟩ => ?_
            subst hr
            exact fin K12 nx1
          · refine thnF (T1.item (X.blk z3 G3 sc ce fp) rfl rfl rfl hc j _ z11 (wipe sg8 vs1) G11 (fun _ _ => False) K11 (fpk1 n11) t11 go1) fun r z12 ⟨u1, hr, h12⟩ => ?_
            subst hr
            refine thnF h12 fun _ z13 ⟨x1, G13, K13, r13, y13, t13, n13⟩ => ?_
            refine thnF (Bh.run _ z13 (wipe sg8 vs1) G13 x1 u1 _ (K13.pinned (fpk1 n13) (T1.obj _ _ t13)) r13 (step1 x1 G13 y13)) fun _ z14 ⟨sg14, G14, K14, w14, q14⟩ => ?_
            refine thnF (Bt.run _ z14 sg14 G14 _ K14 q14) fun b z15 ⟨G15, K15, q15⟩ => ?_
            have fin1 : ∀ {z' : Shared} {G' : Hp}, Inv (X.blk z3 G3 sc ce fp) (([] ++ pinsAt fp z7.heap) ++ pinsAt fp1 z13.heap) sg14 G' z' → Ny G' → ∃ m, m < k ∧ ∃ j G, Inv (X.blk z3 G3 sc ce fp) ([] ++ pinsAt fp z7.heap) (wipe sg8 vs1) G z' ∧ tn1 j z'.heap ∧ (∀ b ∈ fp1, G b = none) ∧ W1 j m G := fun {z' G'} Kk nx => by
              obtain ⟨m', lt, w'⟩ := hNy G' nx
              have pin : ∀ b ∈ fp1, ∀ o, z13.heap.get? b = some o → z'.heap.get? b = some o ∧ G' b = none := fun b hb o e =>
                let y := Kk.pin (b, o) (List.mem_append_right _ (List.mem_append_right _ (mem_pinsAt hb e)))
                ⟨y.1, y.2.1⟩
              refine ⟨m', lt, j + 1, G', Kk.unpinned.weak (by rw [← w14, wipe_length]) (fun j v e => by rw [← w14] at e; exact (wipe_some e).1), T1.keep _ _ _ t13 fun b hb o e => (pin b hb o e).1, fun b hb => ?_, w'⟩
              obtain ⟨o, e, _⟩ := T1.obj _ _ t13 b hb
              exact (pin b hb o e).2
            cases b with
            | false =>
              simp only [Bool.false_eq_true, if_false] at q15 ⊢
              exact fin1 K15 q15
            | true =>
              simp only [if_true] at q15 ⊢
              refine thnF (Be.run _ z15 sg14 G15 _ K15 q15) fun v z16 ⟨y, G16, K16, r16, c, S, nn, ey, hS, hroom, nx⟩ => ?_
              subst ey
              refine wpAny_mono (((mt_sadd (X := X.blk z3 G3 sc ce fp)) _ z16 sg14 G16 (.ref D) [.int c] (.ref D) [v] (fun _ G' => Ny G') K16 rfl (.cons r16 .nil) ⟨D, c, S, nn, rfl, rfl, hS, hroom, nx⟩)) (fun _ z17 ⟨_, G17, K17, _, q17⟩ => fin1 K17 q17) fun _ _ q => q
        exact sc_begin loop1 (T1.self X.A 0 _ _ _ t10 loop1)
    exact PpSet.codeAny_compStart_set loop (T.self X.A 0 _ _ _ t4 loop)
  exact hz3 ▸ goal
end
end Cc

/-! The first start at which two plans differ is a telling one. -/
namespace Cc
open PySem PySem.Spec PyProof.Rows L2
/-- what a plan leaves and carries from x -/
abbrev outF (c : Int) (ss : List Stp) (x : Int) : Int × Int := stepsF c ss (x, 0)
theorem smEnd_ends (m : Sm) : (smEnd m).low = m.low ∧ (smEnd m).high = m.high := by
  unfold smEnd
  split <;> exact ⟨rfl, rfl⟩
theorem dist_even {lo hi x : Int} (h : lo ≤ hi) (h1 : x ≠ lo) (h2 : x ≠ lo + 1) (h3 : x ≠ hi) (h4 : x ≠ hi + 1) : distF lo hi x = 2 * distF lo hi (x - 1) - distF lo hi (x - 2) ∧ clampF lo hi x = 2 * clampF lo hi (x - 1) - clampF lo hi (x - 2) := by
  unfold distF clampF
  constructor <;> omega
/-- off the ends both numbers go on evenly -/
theorem out_even {c x : Int} {ss : List Stp} (hs : ∀ s ∈ ss, s.ok c) (x2 : 2 ≤ x) (x1 : x ≤ c) (h1 : x ≠ (smSteps c ss).low) (h2 : x ≠ (smSteps c ss).low + 1) (h3 : x ≠ (smSteps c ss).high) (h4 : x ≠ (smSteps c ss).high + 1) :
    (outF c ss x).1 = 2 * (outF c ss (x - 1)).1 - (outF c ss (x - 2)).1 ∧ (outF c ss x).2 = 2 * (outF c ss (x - 1)).2 - (outF c ss (x - 2)).2 := by
  obtain ⟨ok, a1, a2⟩ := smSteps_says (c := c) (x := x) (by omega) x1 ss hs
  obtain ⟨_, b1, b2⟩ := smSteps_says (c := c) (x := x - 1) (by omega) (by omega) ss hs
  obtain ⟨_, d1, d2⟩ := smSteps_says (c := c) (x := x - 2) (by omega) (by omega) ss hs
  obtain ⟨e1, e2⟩ := dist_even ok.lh h1 h2 h3 h4
  show (stepsF c ss (x, 0)).1 = 2 * (stepsF c ss (x - 1, 0)).1 - (stepsF c ss (x - 2, 0)).1 ∧ (stepsF c ss (x, 0)).2 = 2 * (stepsF c ss (x - 1, 0)).2 - (stepsF c ss (x - 2, 0)).2
  generalize (stepsF c ss (x, 0)) = px at *
  generalize (stepsF c ss (x - 1, 0)) = py at *
  generalize (stepsF c ss (x - 2, 0)) = pz at *
  obtain ⟨px1, px2⟩ := px
  obtain ⟨py1, py2⟩ := py
  obtain ⟨pz1, pz2⟩ := pz
  simp only at a1 a2 b1 b2 d1 d2
  generalize smSteps c ss = m at *
  obtain ⟨low, high, extra, goal, turned⟩ := m
  simp only at a1 a2 b1 b2 d1 d2 e1 e2
  refine ⟨?_, by show px2 = 2 * py2 - pz2; omega⟩
  show px1 = 2 * py1 - pz1
  cases goal <;> cases turned <;> simp [placeF, sideF] at a2 b2 d2 <;> omega
/-- the numbers that `telling` lists: 0 and both plans' ends, each with the next -/
def boundsF (c : Int) (a b : List Stp) : List Int := [0, (smSteps c a).low, (smSteps c a).high, (smSteps c b).low, (smSteps c b).high]
def TellF (c : Int) (a b : List Stp) (x : Int) : Prop := x ≤ c ∧ ∃ z ∈ boundsF c a b, x = z ∨ x = z + 1
theorem tell_first {c x : Int} {a b : List Stp} (ha : ∀ s ∈ a, s.ok c) (hb : ∀ s ∈ b, s.ok c) (x0 : 0 ≤ x) (x1 : x ≤ c) (hd : outF c a x ≠ outF c b x) (hs : ∀ y, 0 ≤ y → y < x → outF c a y = outF c b y) : TellF c a b x := by
  by_cases q : TellF c a b x
  · exact q
  · exfalso
    have f : ∀ z ∈ boundsF c a b, x ≠ z ∧ x ≠ z + 1 := fun z hz => ⟨fun e => q ⟨x1, z, hz, .inl e⟩, fun e => q ⟨x1, z, hz, .inr e⟩⟩
    simp only [boundsF, List.mem_cons, List.not_mem_nil, or_false, forall_eq_or_imp, forall_eq] at f
    obtain ⟨f0, f1, f2, f3, f4⟩ := f
    obtain ⟨p1, p2⟩ := out_even ha (show 2 ≤ x by omega) x1 f1.1 f1.2 f2.1 f2.2
    obtain ⟨q1, q2⟩ := out_even hb (show 2 ≤ x by omega) x1 f3.1 f3.2 f4.1 f4.2
    have g1 := hs (x - 1) (by omega) (by omega)
    have g2 := hs (x - 2) (by omega) (by omega)
    rw [g1, g2] at p1 p2
    exact hd (Prod.ext (p1.trans q1.symm) (p2.trans q2.symm))
/-- what first_difference answers -/
def FirstF (c : Int) (a b : List Stp) : Option Int → Prop
  | none => ∀ x, 0 ≤ x → x ≤ c → outF c a x = outF c b x
  | some x => 0 ≤ x ∧ x ≤ c ∧ outF c a x ≠ outF c b x ∧ ∀ y, 0 ≤ y → y < x → outF c a y = outF c b y
theorem below {c : Int} {a b : List Stp} (ha : ∀ s ∈ a, s.ok c) (hb : ∀ s ∈ b, s.ok c) {n : Int} (hn : n ≤ c + 1) (ht : ∀ y, 0 ≤ y → y < n → TellF c a b y → outF c a y = outF c b y) : ∀ (k : Nat) (y : Int), y = (k : Int) → y < n → outF c a y = outF c b y := by
  intro k
  induction k using Nat.strongRecOn with
  | _ k ih =>
    intro y hy hlt
    by_cases q : outF c a y = outF c b y
    · exact q
    · exact ht y (by omega) hlt (tell_first ha hb (by omega) (by omega) q fun z z0 z1 => ih z.toNat (by omega) z (by omega) (by omega))
theorem first_some {c : Int} {a b : List Stp} (ha : ∀ s ∈ a, s.ok c) (hb : ∀ s ∈ b, s.ok c) {x : Int} (x0 : 0 ≤ x) (x1 : x ≤ c) (hd : outF c a x ≠ outF c b x) (ht : ∀ y, 0 ≤ y → y < x → TellF c a b y → outF c a y = outF c b y) : FirstF c a b (some x) :=
  ⟨x0, x1, hd, fun y y0 y1 => below ha hb (n := x) (by omega) ht y.toNat y (by omega) y1⟩
theorem first_none {c : Int} {a b : List Stp} (ha : ∀ s ∈ a, s.ok c) (hb : ∀ s ∈ b, s.ok c) (ht : ∀ y, 0 ≤ y → y ≤ c → TellF c a b y → outF c a y = outF c b y) : FirstF c a b none :=
  fun x x0 x1 => below ha hb (n := c + 1) (by omega) (fun y y0 y1 => ht y y0 (by omega)) x.toNat x (by omega) (by omega)
theorem first_uniq {c : Int} {a b : List Stp} : ∀ {o o' : Option Int}, FirstF c a b o → FirstF c b a o' → o = o'
  | none, none, _, _ => rfl
  | none, some x, h, ⟨x0, x1, hd, _⟩ => absurd (h x x0 x1).symm hd
  | some x, none, ⟨x0, x1, hd, _⟩, h => absurd (h x x0 x1).symm hd
  | some x, some y, ⟨x0, x1, hd, hm⟩, ⟨y0, y1, he, hn⟩ => by
    have e : x = y := by
      rcases Int.lt_trichotomy x y with q | q | q
      · exact absurd (hn x x0 q).symm hd
      · exact q
      · exact absurd (hm y y0 q).symm he
    rw [e]
theorem eqv_ints (a b c d : Int) : PyData.eqv (.tuple [.int a, .int b]) (.tuple [.int c, .int d]) = decide ((a, b) = (c, d)) := by
  have q : ∀ i j : Int, (i == j) = decide (i = j) := fun i j => by by_cases h : i = j <;> simp [h]
  simp [PyData.eqv, PyData.eqvAll, q]
theorem shaped_ints (a b : Int) : SeqAt.shaped (.tuple [.int a, .int b]) = true := by
  simp [SeqAt.shaped, PyData.canLay0, PyData.canLayAll0, PyData.depth, PyData.depthAll]
/-- a part of a list of steps -/
theorem Steps.drop {H : Hp} : ∀ {vs : List V} {ss : List Stp} (n : Nat), Steps H vs ss → Steps H (vs.drop n) (ss.drop n)
  | _, _, 0, h => h
  | _, _, _ + 1, .nil => .nil
  | _, _, n + 1, .cons _ t => Steps.drop n t
theorem Steps.take {H : Hp} : ∀ {vs : List V} {ss : List Stp} (n : Nat), Steps H vs ss → Steps H (vs.take n) (ss.take n)
  | _, _, 0, _ => .nil
  | _, _, _ + 1, .nil => .nil
  | _, _, n + 1, .cons r t => .cons r (Steps.take n t)
theorem Steps.cut {H : Hp} {vs : List V} {ss : List Stp} (h : Steps H vs ss) (lo hi : Option Int) : ∃ us, Steps H (cutV vs lo hi) us ∧ us.length ≤ ss.length ∧ ∀ u ∈ us, u ∈ ss := by
  refine ⟨_, (h.drop _).take _, ?_, fun u hu => List.mem_of_mem_drop (List.mem_of_mem_take hu)⟩
  simp only [List.length_take, List.length_drop]
  omega
/-- a walk with a body of any form -/
theorem walk_any {J : It} {n : Nat} {G0 : Hp} {Nx : Hp → Prop} {Bd : V → Hp → (Hp → Prop) → Prop} (Pv : Nat → Hp → Prop) (h0 : Pv 0 G0) (hgo : ∀ i H, i < n → Pv i H → J.go i H) (hst : ∀ H, Pv n H → J.stop n H)
    (hs : ∀ i x H H', i < n → Pv i H → J.yld i H x H' → Bd x H' (Pv (i + 1))) (hd : ∀ H, Pv n H → Nx H) :
    ∃ W : Nat → Nat → Hp → Prop, (∃ m, W 0 m G0) ∧ ∀ j k G, W j k G → (J.stop j G ∧ Nx G) ∨ (J.go j G ∧ ∃ Ny : Hp → Prop, (∀ G', Ny G' → ∃ k', k' < k ∧ W (j + 1) k' G') ∧ ∀ x G', J.yld j G x G' → Bd x G' Ny) := by
  refine ⟨fun i m G => m = n - i ∧ i ≤ n ∧ Pv i G, ⟨n, (Nat.sub_zero n).symm, Nat.zero_le _, h0⟩, ?_⟩
  rintro i m H ⟨rfl, hi, p⟩
  by_cases hlt : i < n
  · exact .inr ⟨hgo i H hlt p, Pv (i + 1), fun H' p' => ⟨n - (i + 1), by omega, rfl, hlt, p'⟩, fun x H' y => hs i x H H' hlt p y⟩
  · have e : i = n := by omega
    subst e
    exact .inl ⟨hst H p, hd H p⟩
theorem walk_tup {K : PySem.W.Frag} {a : Addr} {xs : List V} {G0 : Hp} {Nx : Hp → Prop} {Bd : V → Hp → (Hp → Prop) → Prop} (Pv : Nat → Hp → Prop) (h0 : Pv 0 G0) (hl : ∀ i H, Pv i H → SqT K H a xs)
    (hs : ∀ i x H, xs[i]? = some x → Pv i H → Bd x H (Pv (i + 1))) (hd : ∀ H, Pv xs.length H → Nx H) :
    ∃ W : Nat → Nat → Hp → Prop, (∃ m, W 0 m G0) ∧ ∀ j k G, W j k G → ((Itt K a).stop j G ∧ Nx G) ∨ ((Itt K a).go j G ∧ ∃ Ny : Hp → Prop, (∀ G', Ny G' → ∃ k', k' < k ∧ W (j + 1) k' G') ∧ ∀ x G', (Itt K a).yld j G x G' → Bd x G' Ny) :=
  walk_any (n := xs.length) Pv h0 (fun i H hi p => ⟨xs, xs[i], hl i H p, by simp [hi]⟩) (fun H p => ⟨xs, hl _ H p, Nat.le_refl _⟩) (fun i x H H' hi p y => by
    obtain ⟨e, y⟩ := y
    subst e
    exact hs i x _ (y xs (hl i _ p)) p) hd
theorem walk_list {K : PySem.W.Frag} {a : Addr} {xs : List V} {G0 : Hp} {Nx : Hp → Prop} {Bd : V → Hp → (Hp → Prop) → Prop} (Pv : Nat → Hp → Prop) (h0 : Pv 0 G0) (hl : ∀ i H, Pv i H → SqL K H a xs)
    (hs : ∀ i x H, xs[i]? = some x → Pv i H → Bd x H (Pv (i + 1))) (hd : ∀ H, Pv xs.length H → Nx H) :
    ∃ W : Nat → Nat → Hp → Prop, (∃ m, W 0 m G0) ∧ ∀ j k G, W j k G → ((Itl K a).stop j G ∧ Nx G) ∨ ((Itl K a).go j G ∧ ∃ Ny : Hp → Prop, (∀ G', Ny G' → ∃ k', k' < k ∧ W (j + 1) k' G') ∧ ∀ x G', (Itl K a).yld j G x G' → Bd x G' Ny) :=
  walk_any (n := xs.length) Pv h0 (fun i H hi p => ⟨xs, xs[i], hl i H p, by simp [hi]⟩) (fun H p => ⟨xs, hl _ H p, Nat.le_refl _⟩) (fun i x H H' hi p y => by
    obtain ⟨e, y⟩ := y
    subst e
    exact hs i x _ (y xs (hl i _ p)) p) hd
theorem mem_before {ns : List Int} (hp : ns.Pairwise (· < ·)) {i : Nat} {z y : Int} (hz : ns[i]? = some z) (hy : y ∈ ns) (hlt : y < z) : y ∈ ns.take i := by
  obtain ⟨j, hj, ej⟩ := List.mem_iff_getElem.mp hy
  obtain ⟨hi, ei⟩ := List.getElem?_eq_some_iff.mp hz
  by_cases q : j < i
  · rw [List.mem_take_iff_getElem]
    exact ⟨j, by omega, ej⟩
  · exfalso
    by_cases e : j = i
    · subst e
      omega
    · have := List.pairwise_iff_getElem.mp hp i j hi hj (by omega)
      omega
/-! ### lists of steps: cut, joined, twice -/
section
variable {K : PySem.W.Frag} {c : Int} {H : Hp} {l b : Addr} {ws zs : List V} {ss us : List Stp} {Q : VK}
theorem do_cut {lo hi : Option Int} (hl : H l = some (.lst ws)) (hs : Steps H ws ss) (ho : ∀ s ∈ ss, s.ok c)
    (k : ∀ p vs us H', H p = none → Same H H' → H' p = some (.lst vs) → Steps H' vs us → us.length ≤ ss.length → (∀ u ∈ us, u.ok c) → Q (.ref p) H') : rSlL K (.ref l) lo hi H Q :=
  ⟨l, ws, rfl, SqL.of hl, fun p hp => let ⟨us, h1, h2, h3⟩ := hs.cut lo hi; k p _ us _ hp (same_upd hp) upd_same (h1.same (same_upd hp)) h2 fun u hu => ho u (h3 u hu)⟩
theorem do_cat (ha : H l = some (.lst ws)) (hs : Steps H ws ss) (hb : H b = some (.lst zs)) (ht : Steps H zs us) (hn : ss.length + us.length ≤ 100)
    (k : ∀ p H', H p = none → Same H H' → H' p = some (.lst (ws ++ zs)) → Steps H' (ws ++ zs) (ss ++ us) → Q (.ref p) H') : rCat (.ref l) (.ref b) H Q :=
  ⟨l, b, ws, zs, rfl, rfl, ha, hb, by rw [hs.length, ht.length, sizeLine_eq]; omega, fun p hp => k p _ hp (same_upd hp) upd_same ((hs.append ht).same (same_upd hp))⟩
theorem do_twice (ha : H l = some (.lst ws)) (hs : Steps H ws ss) (hn : ss.length ≤ 50)
    (k : ∀ p H', Same H H' → H' p = some (.lst (ws ++ ws)) → Steps H' (ws ++ ws) (ss ++ ss) → Q (.ref p) H') : rRep (.ref l) (.int 2) H Q :=
  ⟨l, 2, ws, rfl, rfl, ha, by decide, by decide, by rw [hs.length, sizeLine_eq]; show ss.length * 2 ≤ _; omega, fun p hp => by
    have e : (List.replicate (2 : Int).toNat ws).flatten = ws ++ ws := by
      show ws ++ (ws ++ []) = ws ++ ws
      rw [List.append_nil]
    rw [e]
    exact k p _ (same_upd hp) upd_same ((hs.append hs).same (same_upd hp))⟩
end
theorem lay_ints : ∀ ns : List Int, PyData.canLayAll0 (ns.map PyData.int) = true ∧ PyData.depthAll (ns.map PyData.int) = 0
  | [] => by simp [PyData.canLayAll0, PyData.depthAll]
  | n :: ns => by
    obtain ⟨a, b⟩ := lay_ints ns
    simp [PyData.canLayAll0, PyData.depthAll, PyData.canLay0, PyData.depth, a, b]
theorem shaped_list (ns : List Int) : SeqAt.shaped (.list (ns.map PyData.int)) = true := by
  obtain ⟨a, b⟩ := lay_ints ns
  unfold SeqAt.shaped
  simp [PyData.canLay0, PyData.depth, a, b]
theorem eqv_nil (ns : List Int) : PyData.eqv (.list (ns.map PyData.int)) (.list []) = decide (ns = []) := by
  cases ns <;> simp [PyData.eqv, PyData.eqvAll]
theorem dp_ints {K : PySem.W.Frag} {H : Hp} : ∀ ns : List Int, DpAll K H (ns.map V.int) (ns.map PyData.int)
  | [] => .nil
  | n :: ns => .cons (.int n) (dp_ints ns)
/-- the first of the starts below n -/
def FirstB (c : Int) (a b : List Stp) (n : Nat) : Option Int → Prop
  | none => ∀ x, 0 ≤ x → x < (n : Int) → outF c a x = outF c b x
  | some x => 0 ≤ x ∧ x < (n : Int) ∧ outF c a x ≠ outF c b x ∧ ∀ y, 0 ≤ y → y < x → outF c a y = outF c b y
theorem firstB_no {c : Int} {a b : List Stp} {n : Nat} : ∀ {o : Option Int}, FirstB c a b n o → outF c a (n : Int) = outF c b (n : Int) → FirstB c a b (n + 1) o
  | none, h, e => fun x x0 x1 => by
    by_cases q : x = (n : Int)
    · rw [q]
      exact e
    · exact h x x0 (by omega)
  | some _, ⟨h1, h2, h3, h4⟩, _ => ⟨h1, by omega, h3, h4⟩
theorem firstB_yes {c : Int} {a b : List Stp} {n : Nat} : ∀ {ns : List Int}, FirstB c a b n ns.head? → outF c a (n : Int) ≠ outF c b (n : Int) → FirstB c a b (n + 1) (ns ++ [(n : Int)]).head?
  | [], h, e => ⟨by omega, by omega, e, fun y y0 y1 => h y y0 y1⟩
  | _ :: _, ⟨h1, h2, h3, h4⟩, _ => ⟨h1, by omega, h3, h4⟩
theorem firstB_end {c : Int} {a b : List Stp} (c0 : 0 ≤ c) : ∀ {o : Option Int}, FirstB c a b (c + 1).toNat o → FirstF c a b o
  | none, h => fun x x0 x1 => h x x0 (by omega)
  | some _, ⟨h1, h2, h3, h4⟩ => ⟨h1, by omega, h3, h4⟩
theorem first_swap {c : Int} {a b : List Stp} : ∀ {o : Option Int}, FirstF c a b o → FirstF c b a o
  | none, h => fun x x0 x1 => (h x x0 x1).symm
  | some _, ⟨h1, h2, h3, h4⟩ => ⟨h1, h2, fun e => h3 e.symm, fun y y0 y1 => (h4 y y0 y1).symm⟩
theorem first_same {c : Int} {a b : List Stp} {o o' : Option Int} (h : FirstF c a b o) (h' : FirstF c a b o') : o = o' := first_uniq h (first_swap h')
theorem scal_goal (o o' : Option Int) : scal (goalV o) (goalV o') = true := by
  cases o <;> cases o' <;> rfl
end Cc

namespace Cc
open PySem PySem.Spec PyProof.Rows L2
abbrev sAlike : Stmt := top 39
/-! _law_alike of values that say the same -/
/-- scalars -/
def Scal (v : V) : Prop := (∃ i, v = .int i) ∨ (∃ y, v = .str y) ∨ (∃ y, v = .bl y) ∨ v = .non
/-- what never changes is kept: tuples, what is locked -/
def Fix (H H' : Hp) : Prop := (∀ b us, H b = some (.tup us) → H' b = some (.tup us)) ∧ ∀ b o u, H b = some (.frz o u) → H' b = some (.frz o u)
theorem Fix.of {H H' : Hp} (s : Same H H') : Fix H H' := ⟨fun _ _ e => s _ _ e, fun _ _ _ e => s _ _ e⟩
theorem Fix.trans {H H1 H2 : Hp} (a : Fix H H1) (b : Fix H1 H2) : Fix H H2 := ⟨fun _ _ e => b.1 _ _ (a.1 _ _ e), fun _ _ _ e => b.2 _ _ _ (a.2 _ _ _ e)⟩
def TupK (K : PySem.W.Frag) (H : Hp) (p : Addr) (xs : List V) : Prop := ∀ H', Fix H H' → SqT K H' p xs
theorem TupK.of {K : PySem.W.Frag} {H : Hp} {p : Addr} {xs : List V} (h : H p = some (.tup xs)) : TupK K H p xs := fun H' k => SqT.of (k.1 _ _ h)
theorem TupK.fix {K : PySem.W.Frag} {H H1 : Hp} {p : Addr} {xs : List V} (h : TupK K H p xs) (s : Fix H H1) : TupK K H1 p xs := fun H' k => h H' (s.trans k)
theorem TupK.same {K : PySem.W.Frag} {H H1 : Hp} {p : Addr} {xs : List V} (h : TupK K H p xs) (s : Same H H1) : TupK K H1 p xs := h.fix (Fix.of s)
theorem TupK.lock {K : PySem.W.Frag} {H : Hp} {p : Addr} {xs : List V} (h : TupP H p xs) : TupK K H p xs := fun H' k => let ⟨o, d, e⟩ := h; TupP.sq ⟨o, d, k.2 _ _ _ e⟩
theorem TupK.at_ {K : PySem.W.Frag} {H : Hp} {p : Addr} {xs : List V} (h : TupK K H p xs) : SqT K H p xs := h H (Fix.of (Same.refl H))
/-- two values that say the same, down to a depth -/
def SmD (K : PySem.W.Frag) (H : Hp) : Nat → V → V → Prop
  | 0, v, w => w = v ∧ Scal v
  | n + 1, v, w => SmD K H n v w ∨ ∃ (p q : Addr) (xs ys : List V), v = .ref p ∧ w = .ref q ∧ xs.length ≤ 100000 ∧ Paired (SmD K H n) xs ys ∧ ((H p = some (.lst xs) ∧ H q = some (.lst ys)) ∨ (TupK K H p xs ∧ TupK K H q ys))
theorem paired_mono {R S : V → V → Prop} (m : ∀ v w, R v w → S v w) : ∀ {xs ys : List V}, Paired R xs ys → Paired S xs ys
  | _, _, .nil => .nil
  | _, _, .cons a r => .cons (m _ _ a) (paired_mono m r)
theorem paired_at {R : V → V → Prop} : ∀ {xs ys : List V} {i : Nat} {x y : V}, Paired R xs ys → xs[i]? = some x → ys[i]? = some y → R x y
  | _, _, 0, _, _, .cons a r, e1, e2 => by
    cases e1
    cases e2
    exact a
  | _, _, i + 1, _, _, .cons a r, e1, e2 => paired_at (i := i) r e1 e2
theorem SmD.same {K : PySem.W.Frag} {H H1 : Hp} (s : Same H H1) : ∀ {n : Nat} {v w : V}, SmD K H n v w → SmD K H1 n v w
  | 0, _, _, h => h
  | n + 1, _, _, .inl h => .inl (SmD.same s h)
  | n + 1, _, _, .inr ⟨p, q, xs, ys, e1, e2, hn, hP, h⟩ => .inr ⟨p, q, xs, ys, e1, e2, hn, paired_mono (fun _ _ z => SmD.same s z) hP, h.imp (fun z => ⟨s _ _ z.1, s _ _ z.2⟩) fun z => ⟨z.1.same s, z.2.same s⟩⟩
def spAlike (K : PySem.W.Frag) (n : Nat) : Sp := fun vs H Q _ => ∃ (a b : V), vs = [a, b] ∧ SmD K H n a b ∧ ∀ H', Same H H' → Q (.bl true) H'
def spAlikeL (K : PySem.W.Frag) (n : Nat) : Sp := fun vs H Q _ => ∃ (p q : Addr) (xs ys : List V), vs = [.ref p, .ref q] ∧ H p = some (.lst xs) ∧ H q = some (.lst ys) ∧ xs.length ≤ 100000 ∧ Paired (SmD K H n) xs ys ∧ ∀ H', Same H H' → Q (.bl true) H'
def spAlikeT (K : PySem.W.Frag) (n : Nat) : Sp := fun vs H Q _ => ∃ (p q : Addr) (xs ys : List V), vs = [.ref p, .ref q] ∧ TupK K H p xs ∧ TupK K H q ys ∧ xs.length ≤ 100000 ∧ Paired (SmD K H n) xs ys ∧ ∀ H', Same H H' → Q (.bl true) H'
abbrev nAlike : List Str := ["_law_found", "_law_due", "_law_k"]
def ttSameDL (K : PySem.W.Frag) (n : Nat) : TT := tNot (tB fun σ H Q => tCons (tOp (rIxL K) (tVar 0) (tVar 2)) (tCons (tOp (rIxL K) (tVar 1) (tVar 2)) tNil) σ H fun vs H1 => spAlike K n vs H1 Q E0)
def ttSameDT (K : PySem.W.Frag) (n : Nat) : TT := tNot (tB fun σ H Q => tCons (tOp (rIxT K) (tVar 0) (tVar 2)) (tCons (tOp (rIxT K) (tVar 1) (tVar 2)) tNil) σ H fun vs H1 => spAlike K n vs H1 Q E0)
section
variable {P : Program} {w : World} {K : PySem.W.Frag} {mg : Str → Option Value} {base : Heap}
theorem scAlike : FnScope nAlike ["_law_found", "_law_due"] (defScope sAlike) := ⟨rfl, rfl, rfl, by decide +kernel, rfl, by decide +kernel, by decide +kernel⟩
theorem kit_no {K : PySem.W.Frag} {t : Value} {a b : Value} (h1 : PySem.W.kitOne K t a = some false) (h2 : PySem.W.kitOne K t b = some false) : PySem.W.kitAny K t [a, b] = some false :=
  kitAny_cons h1 (fun _ => kitAny_cons h2 (fun _ => kitAny_nil) fun z => nomatch z) fun z => nomatch z
theorem kit_fst {K : PySem.W.Frag} {t : Value} {a b : Value} (h1 : PySem.W.kitOne K t a = some true) : PySem.W.kitAny K t [a, b] = some true := kitAny_cons h1 (fun z => nomatch z) fun _ => rfl
theorem kit_yes {K : PySem.W.Frag} {t : Value} {a b : Value} (h1 : PySem.W.kitOne K t a = some false) (h2 : PySem.W.kitOne K t b = some true) : PySem.W.kitAny K t [a, b] = some true :=
  kitAny_cons h1 (fun _ => kitAny_cons h2 (fun z => nomatch z) fun _ => rfl) fun z => nomatch z
theorem ok_alike0 {f : Addr} {fd : FuncData} (F : Fun K "_law_alike" "_law_alike" sAlike f fd) (B : Bt mg) : FnOk P w K mg base CX0 1 f fd ["_law_found", "_law_due"] (spAlike K 0) := by
  refine F.ok scAlike (fun vs H Q E h => ?_) (fun cdv A outer s H vs Q E hr h => ?_)
  · obtain ⟨a, b, rfl, _⟩ := h
    rfl
  · obtain ⟨a, b, rfl, ⟨rfl, ha⟩, k⟩ := h
    refine ⟨_, pss_cons (ps_if (pt_val (pe_callB call_isi (by rfl) B.isinstance (by decide +kernel) (pa_cons (pv 1) (pa_cons (pe_bltn (v := .ty "dict") (by rfl) B.dict (by decide +kernel) rfl) pa_nil)))) (pss_one ps_never) pss_nil)
      (pss_cons (ps_if (pt_val (pe_callB call_isiT (by rfl) B.isinstance (by decide +kernel) (pa_cons (pv 1) (pa_cons (pe_tup (pa_cons (pe_bltn (v := .ty "tuple") (by rfl) B.tuple (by decide +kernel) rfl) (pa_cons (pe_bltn (v := .ty "list") (by rfl) B.list (by decide +kernel) rfl) pa_nil))) pa_nil)))) (pss_cons ps_never (pss_cons ps_never (pss_one ps_never))) pss_nil)
      (pss_cons (ps_if (PW.pt (pw_or (pt_cmpR op_isN (pv 1) pe_non (nomark _)) (pw_or1 (pt_val (pe_callB call_isi (by rfl) B.isinstance (by decide +kernel) (pa_cons (pv 1) (pa_cons (pe_bltn (v := .ty "str") (by rfl) B.str (by decide +kernel) rfl) pa_nil)))))))
        (pss_one (ps_ret (pe_and (pe_cmpR op_eq (pv 0) (pv 1) (nomark _)) (pe_one (pe_cmpR op_eq (pe_callB call_isi (by rfl) B.isinstance (by decide +kernel) (pa_cons (pv 0) (pa_cons (pe_bltn (v := .ty "str") (by rfl) B.str (by decide +kernel) rfl) pa_nil))) (pe_callB call_isi (by rfl) B.isinstance (by decide +kernel) (pa_cons (pv 1) (pa_cons (pe_bltn (v := .ty "str") (by rfl) B.str (by decide +kernel) rfl) pa_nil))) (nomark _)))))) pss_nil)
      (pss_one (ps_ret (pe_and (pe_callB call_isi (by rfl) B.isinstance (by decide +kernel) (pa_cons (pv 0) (pa_cons (pe_bltn (v := .ty "int") (by rfl) B.int (by decide +kernel) rfl) pa_nil))) (pe_and (pe_cmpR op_eq (pe_callB call_isi (by rfl) B.isinstance (by decide +kernel) (pa_cons (pv 0) (pa_cons (pe_bltn (v := .ty "bool") (by rfl) B.bool (by decide +kernel) rfl) pa_nil))) (pe_callB call_isi (by rfl) B.isinstance (by decide +kernel) (pa_cons (pv 1) (pa_cons (pe_bltn (v := .ty "bool") (by rfl) B.bool (by decide +kernel) rfl) pa_nil))) (nomark _)) (pe_one (pe_cmpR op_eq (pv 0) (pv 1) (nomark _))))))))), ?_⟩
    rcases ha with ⟨i, rfl⟩ | ⟨y, rfl⟩ | ⟨y, rfl⟩ | rfl
    · refine ⟨_, rfl, _, _, _, _, false, rfl, .ty "dict", .base (.int i), kit_ty (by decide +kernel), false, rfl, iteF ?_⟩
      refine ⟨_, rfl, by show 2 ≤ sizeLine; decide, fun t ht => ?_⟩
      refine ⟨_, t, _, _, _, false, rfl, upd_same, .cons (.ty "tuple") (.cons (.ty "list") .nil), .base (.int i), kit_no (kit_ty (by decide +kernel)) (kit_ty (by decide +kernel)), false, rfl, iteF ?_⟩
      refine ⟨_, rfl, rfl, _, rfl, ifF (by simp) ⟨_, rfl, _, _, _, _, false, rfl, .ty "str", .base (.int i), kit_ty (by decide +kernel), false, rfl, iteF ?_⟩⟩
      refine ⟨_, rfl, _, _, _, _, true, rfl, .ty "int", .base (.int i), kit_ty (by decide +kernel), true, rfl, iteT ?_⟩
      refine ⟨_, rfl, _, _, _, _, false, rfl, .ty "bool", .base (.int i), kit_ty (by decide +kernel), _, rfl, _, _, _, _, false, rfl, .ty "bool", .base (.int i), kit_ty (by decide +kernel), rfl, true, rfl, iteT ?_⟩
      refine ⟨_, rfl, _, rfl, rfl, ?_⟩
      rw [decide_eq_true (show V.int i = V.int i from rfl)]
      exact k _ (same_upd ht)
    · refine ⟨_, rfl, _, _, _, _, false, rfl, .ty "dict", .base (.str y), kit_ty (by decide +kernel), false, rfl, iteF ?_⟩
      refine ⟨_, rfl, by show 2 ≤ sizeLine; decide, fun t ht => ?_⟩
      refine ⟨_, t, _, _, _, false, rfl, upd_same, .cons (.ty "tuple") (.cons (.ty "list") .nil), .base (.str y), kit_no (kit_ty (by decide +kernel)) (kit_ty (by decide +kernel)), false, rfl, iteF ?_⟩
      refine ⟨_, rfl, rfl, _, rfl, ifF (by simp) ⟨_, rfl, _, _, _, _, true, rfl, .ty "str", .base (.str y), kit_ty (by decide +kernel), true, rfl, iteT ?_⟩⟩
      refine ⟨_, rfl, _, rfl, rfl, true, by rw [decide_eq_true (show V.str y = V.str y from rfl)], iteT ?_⟩
      refine ⟨_, rfl, _, _, _, _, true, rfl, .ty "str", .base (.str y), kit_ty (by decide +kernel), _, rfl, _, _, _, _, true, rfl, .ty "str", .base (.str y), kit_ty (by decide +kernel), rfl, ?_⟩
      exact k _ (same_upd ht)
    · refine ⟨_, rfl, _, _, _, _, false, rfl, .ty "dict", .base (.bl y), kit_ty (by decide +kernel), false, rfl, iteF ?_⟩
      refine ⟨_, rfl, by show 2 ≤ sizeLine; decide, fun t ht => ?_⟩
      refine ⟨_, t, _, _, _, false, rfl, upd_same, .cons (.ty "tuple") (.cons (.ty "list") .nil), .base (.bl y), kit_no (kit_ty (by decide +kernel)) (kit_ty (by decide +kernel)), false, rfl, iteF ?_⟩
      refine ⟨_, rfl, rfl, _, rfl, ifF (by simp) ⟨_, rfl, _, _, _, _, false, rfl, .ty "str", .base (.bl y), kit_ty (by decide +kernel), false, rfl, iteF ?_⟩⟩
      refine ⟨_, rfl, _, _, _, _, true, rfl, .ty "int", .base (.bl y), kit_ty (by decide +kernel), true, rfl, iteT ?_⟩
      refine ⟨_, rfl, _, _, _, _, true, rfl, .ty "bool", .base (.bl y), kit_ty (by decide +kernel), _, rfl, _, _, _, _, true, rfl, .ty "bool", .base (.bl y), kit_ty (by decide +kernel), rfl, true, rfl, iteT ?_⟩
      refine ⟨_, rfl, _, rfl, rfl, ?_⟩
      rw [decide_eq_true (show V.bl y = V.bl y from rfl)]
      exact k _ (same_upd ht)
    · refine ⟨_, rfl, _, _, _, _, false, rfl, .ty "dict", .base .non, kit_ty (by decide +kernel), false, rfl, iteF ?_⟩
      refine ⟨_, rfl, by show 2 ≤ sizeLine; decide, fun t ht => ?_⟩
      refine ⟨_, t, _, _, _, false, rfl, upd_same, .cons (.ty "tuple") (.cons (.ty "list") .nil), .base .non, kit_no (kit_ty (by decide +kernel)) (kit_ty (by decide +kernel)), false, rfl, iteF ?_⟩
      refine ⟨_, rfl, rfl, _, rfl, ifT (by simp) (iteT ?_)⟩
      refine ⟨_, rfl, _, rfl, rfl, true, by rw [decide_eq_true (show V.non = V.non from rfl)], iteT ?_⟩
      refine ⟨_, rfl, _, _, _, _, false, rfl, .ty "str", .base .non, kit_ty (by decide +kernel), _, rfl, _, _, _, _, false, rfl, .ty "str", .base .non, kit_ty (by decide +kernel), rfl, ?_⟩
      exact k _ (same_upd ht)
theorem ok_alikel {f : Addr} {fd : FuncData} (F : Fun K "_law_alike" "_law_alike" sAlike f fd) (B : Bt mg) {n : Nat} (DI : Dn P w K mg base (n + 1) "_law_alike" f (spAlike K n)) : FnOk P w K mg base CX0 (n + 1 + 1) f fd ["_law_found", "_law_due"] (spAlikeL K n) := by
  refine F.ok scAlike (fun vs H Q E h => ?_) (fun cdv A outer s H vs Q E hr h => ?_)
  · obtain ⟨p, q, xs, ys, rfl, _⟩ := h
    rfl
  · obtain ⟨p, q, xs, ys, rfl, hp, hq, hn, hP, k⟩ := h
    have hlen : xs.length = ys.length := Paired.length hP
    refine ⟨_, pss_cons (ps_if (pt_val (pe_callB call_isi (by rfl) B.isinstance (by decide +kernel) (pa_cons (pv 1) (pa_cons (pe_bltn (v := .ty "dict") (by rfl) B.dict (by decide +kernel) rfl) pa_nil)))) (pss_one ps_never) pss_nil)
      (pss_cons (ps_if (pt_val (pe_callB call_isiT (by rfl) B.isinstance (by decide +kernel) (pa_cons (pv 1) (pa_cons (pe_tup (pa_cons (pe_bltn (v := .ty "tuple") (by rfl) B.tuple (by decide +kernel) rfl) (pa_cons (pe_bltn (v := .ty "list") (by rfl) B.list (by decide +kernel) rfl) pa_nil))) pa_nil))))
        (pss_cons (ps_if (PW.pt (pw_or (pt_not (pt_val (pe_callB call_isiT (by rfl) B.isinstance (by decide +kernel) (pa_cons (pv 0) (pa_cons (pe_tup (pa_cons (pe_bltn (v := .ty "tuple") (by rfl) B.tuple (by decide +kernel) rfl) (pa_cons (pe_bltn (v := .ty "list") (by rfl) B.list (by decide +kernel) rfl) pa_nil))) pa_nil))))) (pw_or1 (pt_cmpR op_ne (pe_callB call_isi (by rfl) B.isinstance (by decide +kernel) (pa_cons (pv 0) (pa_cons (pe_bltn (v := .ty "list") (by rfl) B.list (by decide +kernel) rfl) pa_nil))) (pe_callB call_isi (by rfl) B.isinstance (by decide +kernel) (pa_cons (pv 1) (pa_cons (pe_bltn (v := .ty "list") (by rfl) B.list (by decide +kernel) rfl) pa_nil))) (nomark _))))) (pss_one ps_never) pss_nil)
        (pss_cons (ps_if (pt_cmpR op_ne (pe_callB call_len_seq (by rfl) B.len PySem.boot_len (pa_cons (pv 0) pa_nil)) (pe_callB call_len_seq (by rfl) B.len PySem.boot_len (pa_cons (pv 1) pa_nil)) (nomark _)) (pss_one ps_never) pss_nil)
        (pss_one (ps_ret (pe_cmpR (op_eqD hr.units) (pe_lc (own := [("_law_k", 2)]) (g := gName 2) (tt := ttSameDL K n) (te := tVar 2) rfl scAlike.nd (pi_range1 rfl B.range (pa_cons (pe_callB call_len_seq (by rfl) B.len PySem.boot_len (pa_cons (pv 1) pa_nil)) pa_nil)) (blkOk_by (N := nAlike) (sc := defScope sAlike) (by decide +kernel))
            (fun _ _ _ _ _ => pg_name (i := 2) scAlike.nd rfl (.inl rfl)) (fun _ _ _ _ _ => by exact (pts_one (pt_not (pt_val (pe_callR DI.ok hr rfl DI.at_ DI.kp pass0 (pa_cons (pe_ix ix_list (pv 0) (pv 2) (fun _ _ => rfl)) (pa_cons (pe_ix ix_list (pv 1) (pv 2) (fun _ _ => rfl)) pa_nil))))))) (fun _ _ _ _ _ => pv 2)) (pe_lst pa_nil) (nomark _)))))) pss_nil)
      (pss_cons ps_never (pss_one ps_never))), ?_⟩
    refine ⟨_, rfl, _, _, _, _, false, rfl, .ty "dict", .base (.lst hq), kit_ty (by decide +kernel), false, rfl, iteF ?_⟩
    refine ⟨_, rfl, by show 2 ≤ sizeLine; decide, fun t ht => ?_⟩
    have s1 : Same H (upd H t (.tup [.ty "tuple", .ty "list"])) := same_upd ht
    refine ⟨_, t, _, _, _, true, rfl, upd_same, .cons (.ty "tuple") (.cons (.ty "list") .nil), .base (.lst (s1 _ _ hq)), kit_yes (kit_ty (by decide +kernel)) (kit_ty (by decide +kernel)), true, rfl, iteT ?_⟩
    refine ⟨_, rfl, by show 2 ≤ sizeLine; decide, fun t2 ht2 => ?_⟩
    have s2 := s1.trans (same_upd (o := .tup [.ty "tuple", .ty "list"]) ht2)
    refine ⟨_, t2, _, _, _, true, rfl, upd_same, .cons (.ty "tuple") (.cons (.ty "list") .nil), .base (.lst (s2 _ _ hp)), kit_yes (kit_ty (by decide +kernel)) (kit_ty (by decide +kernel)), true, rfl, ?_⟩
    refine ⟨_, rfl, _, _, _, _, true, rfl, .ty "list", .base (.lst (s2 _ _ hp)), kit_ty (by decide +kernel), _, rfl, _, _, _, _, true, rfl, .ty "list", .base (.lst (s2 _ _ hq)), kit_ty (by decide +kernel), rfl, _, rfl, iteF ?_⟩
    refine ⟨_, rfl, p, _, rfl, .inl (SqL.of (s2 _ _ hp)), _, rfl, q, _, rfl, .inl (SqL.of (s2 _ _ hq)), rfl, _, rfl, ifF (by rw [hlen]; simp) ?_⟩
    refine ⟨_, rfl, q, _, rfl, .inl (SqL.of (s2 _ _ hq)), _, rfl, by omega, by omega, fun D hD => ?_⟩
    refine lc_range (lo := 0) (n := (((ys.length : Nat) : Int)).toNat) (fun i H' => Same H H' ∧ H' D = some (.lst [])) ⟨s2.trans (same_upd hD), upd_same⟩ ?_ ?_
    · rintro i H3 hi ⟨s3, e3⟩
      have hi' : i < ys.length := by omega
      obtain ⟨x, ex⟩ : ∃ x, xs[i]? = some x := ⟨_, List.getElem?_eq_getElem (by omega)⟩
      obtain ⟨y, ey⟩ : ∃ y, ys[i]? = some y := ⟨_, List.getElem?_eq_getElem hi'⟩
      have hxy := paired_at hP ex ey
      have ei : (0 : Int) + (i : Int) = ((i : Nat) : Int) := Int.zero_add _
      refine ⟨rfl, _, rfl, _, rfl, p, _, _, _, rfl, rfl, SqL.of (s3 _ _ hp), at_of (j := i) ei ex, _, rfl, _, rfl, q, _, _, _, rfl, rfl, SqL.of (s3 _ _ hq), at_of (j := i) ei ey, x, y, rfl, hxy.same s3, fun H4 s4 => ⟨true, rfl, ifF rfl ?_⟩⟩
      exact ⟨s3.trans s4, s4 _ _ e3⟩
    · rintro H3 ⟨s3, e3⟩
      refine ⟨by show 0 ≤ sizeLine; decide, fun D2 hD2 => ?_⟩
      have s4 := s3.trans (same_upd (o := .lst []) hD2)
      refine ⟨.list (([] : List Int).map PyData.int), .list (([] : List Int).map PyData.int), .lst (SqL.of ((same_upd hD2) _ _ e3)) (dp_ints []), .lst (SqL.of upd_same) (dp_ints []), shaped_list _, shaped_list _, ?_⟩
      rw [eqv_selfs]
      exact k _ s4
theorem ok_aliket {f : Addr} {fd : FuncData} (F : Fun K "_law_alike" "_law_alike" sAlike f fd) (B : Bt mg) {n : Nat} (DI : Dn P w K mg base (n + 1) "_law_alike" f (spAlike K n)) : FnOk P w K mg base CX0 (n + 1 + 1) f fd ["_law_found", "_law_due"] (spAlikeT K n) := by
  refine F.ok scAlike (fun vs H Q E h => ?_) (fun cdv A outer s H vs Q E hr h => ?_)
  · obtain ⟨p, q, xs, ys, rfl, _⟩ := h
    rfl
  · obtain ⟨p, q, xs, ys, rfl, hp, hq, hn, hP, k⟩ := h
    have hlen : xs.length = ys.length := Paired.length hP
    have gp : ∀ {H'}, Same H H' → SqT K H' p xs := fun s => hp _ (Fix.of s)
    have gq : ∀ {H'}, Same H H' → SqT K H' q ys := fun s => hq _ (Fix.of s)
    refine ⟨_, pss_cons (ps_if (pt_val (pe_callB call_isi (by rfl) B.isinstance (by decide +kernel) (pa_cons (pv 1) (pa_cons (pe_bltn (v := .ty "dict") (by rfl) B.dict (by decide +kernel) rfl) pa_nil)))) (pss_one ps_never) pss_nil)
      (pss_cons (ps_if (pt_val (pe_callB call_isiT (by rfl) B.isinstance (by decide +kernel) (pa_cons (pv 1) (pa_cons (pe_tup (pa_cons (pe_bltn (v := .ty "tuple") (by rfl) B.tuple (by decide +kernel) rfl) (pa_cons (pe_bltn (v := .ty "list") (by rfl) B.list (by decide +kernel) rfl) pa_nil))) pa_nil))))
        (pss_cons (ps_if (PW.pt (pw_or (pt_not (pt_val (pe_callB call_isiT (by rfl) B.isinstance (by decide +kernel) (pa_cons (pv 0) (pa_cons (pe_tup (pa_cons (pe_bltn (v := .ty "tuple") (by rfl) B.tuple (by decide +kernel) rfl) (pa_cons (pe_bltn (v := .ty "list") (by rfl) B.list (by decide +kernel) rfl) pa_nil))) pa_nil))))) (pw_or1 (pt_cmpR op_ne (pe_callB call_isi (by rfl) B.isinstance (by decide +kernel) (pa_cons (pv 0) (pa_cons (pe_bltn (v := .ty "list") (by rfl) B.list (by decide +kernel) rfl) pa_nil))) (pe_callB call_isi (by rfl) B.isinstance (by decide +kernel) (pa_cons (pv 1) (pa_cons (pe_bltn (v := .ty "list") (by rfl) B.list (by decide +kernel) rfl) pa_nil))) (nomark _))))) (pss_one ps_never) pss_nil)
        (pss_cons (ps_if (pt_cmpR op_ne (pe_callB call_len_seq (by rfl) B.len PySem.boot_len (pa_cons (pv 0) pa_nil)) (pe_callB call_len_seq (by rfl) B.len PySem.boot_len (pa_cons (pv 1) pa_nil)) (nomark _)) (pss_one ps_never) pss_nil)
        (pss_one (ps_ret (pe_cmpR (op_eqD hr.units) (pe_lc (own := [("_law_k", 2)]) (g := gName 2) (tt := ttSameDT K n) (te := tVar 2) rfl scAlike.nd (pi_range1 rfl B.range (pa_cons (pe_callB call_len_seq (by rfl) B.len PySem.boot_len (pa_cons (pv 1) pa_nil)) pa_nil)) (blkOk_by (N := nAlike) (sc := defScope sAlike) (by decide +kernel))
            (fun _ _ _ _ _ => pg_name (i := 2) scAlike.nd rfl (.inl rfl)) (fun _ _ _ _ _ => by exact (pts_one (pt_not (pt_val (pe_callR DI.ok hr rfl DI.at_ DI.kp pass0 (pa_cons (pe_ix ix_tup (pv 0) (pv 2) (fun _ _ => rfl)) (pa_cons (pe_ix ix_tup (pv 1) (pv 2) (fun _ _ => rfl)) pa_nil))))))) (fun _ _ _ _ _ => pv 2)) (pe_lst pa_nil) (nomark _)))))) pss_nil)
      (pss_cons ps_never (pss_one ps_never))), ?_⟩
    refine ⟨_, rfl, _, _, _, _, false, rfl, .ty "dict", sqT_ty (gq (Same.refl H)), kit_ty (by decide +kernel), false, rfl, iteF ?_⟩
    refine ⟨_, rfl, by show 2 ≤ sizeLine; decide, fun t ht => ?_⟩
    have s1 : Same H (upd H t (.tup [.ty "tuple", .ty "list"])) := same_upd ht
    refine ⟨_, t, _, _, _, true, rfl, upd_same, .cons (.ty "tuple") (.cons (.ty "list") .nil), sqT_ty (gq s1), kit_fst (kit_ty (by decide +kernel)), true, rfl, iteT ?_⟩
    refine ⟨_, rfl, by show 2 ≤ sizeLine; decide, fun t2 ht2 => ?_⟩
    have s2 := s1.trans (same_upd (o := .tup [.ty "tuple", .ty "list"]) ht2)
    refine ⟨_, t2, _, _, _, true, rfl, upd_same, .cons (.ty "tuple") (.cons (.ty "list") .nil), sqT_ty (gp s2), kit_fst (kit_ty (by decide +kernel)), true, rfl, ?_⟩
    refine ⟨_, rfl, _, _, _, _, false, rfl, .ty "list", sqT_ty (gp s2), kit_ty (by decide +kernel), _, rfl, _, _, _, _, false, rfl, .ty "list", sqT_ty (gq s2), kit_ty (by decide +kernel), rfl, _, rfl, iteF ?_⟩
    refine ⟨_, rfl, p, _, rfl, .inr (gp s2), _, rfl, q, _, rfl, .inr (gq s2), rfl, _, rfl, ifF (by rw [hlen]; simp) ?_⟩
    refine ⟨_, rfl, q, _, rfl, .inr (gq s2), _, rfl, by omega, by omega, fun D hD => ?_⟩
    refine lc_range (lo := 0) (n := (((ys.length : Nat) : Int)).toNat) (fun i H' => Same H H' ∧ H' D = some (.lst [])) ⟨s2.trans (same_upd hD), upd_same⟩ ?_ ?_
    · rintro i' H3 hi ⟨s3, e3⟩
      have ei : (0 : Int) + (i' : Int) = ((i' : Nat) : Int) := Int.zero_add _
      obtain ⟨x, ex⟩ : ∃ x, xs[i']? = some x := ⟨_, List.getElem?_eq_getElem (by omega)⟩
      obtain ⟨y, ey⟩ : ∃ y, ys[i']? = some y := ⟨_, List.getElem?_eq_getElem (by omega)⟩
      have hxy := paired_at hP ex ey
      refine ⟨rfl, _, rfl, _, rfl, p, _, _, _, rfl, rfl, gp s3, at_of (j := i') ei ex, _, rfl, _, rfl, q, _, _, _, rfl, rfl, gq s3, at_of (j := i') ei ey, x, y, rfl, hxy.same s3, fun H4 s4 => ⟨true, rfl, ifF rfl ?_⟩⟩
      exact ⟨s3.trans s4, s4 _ _ e3⟩
    · rintro H3 ⟨s3, e3⟩
      refine ⟨by show 0 ≤ sizeLine; decide, fun D2 hD2 => ?_⟩
      have s4 := s3.trans (same_upd (o := .lst []) hD2)
      refine ⟨.list (([] : List Int).map PyData.int), .list (([] : List Int).map PyData.int), .lst (SqL.of ((same_upd hD2) _ _ e3)) (dp_ints []), .lst (SqL.of upd_same) (dp_ints []), shaped_list _, shaped_list _, ?_⟩
      rw [eqv_selfs]
      exact k _ s4
theorem ok_alikeD {f : Addr} {fd : FuncData} (F : Fun K "_law_alike" "_law_alike" sAlike f fd) (B : Bt mg) (at_ : mg "_law_alike" = some (.ref f)) (kp : PySem.W.keepIn K (.ref f) = true) (hb : Binds K fd ["_law_found", "_law_due"] []) : ∀ n : Nat, FnOk P w K mg base CX0 (n + 1) f fd ["_law_found", "_law_due"] (spAlike K n)
  | 0 => ok_alike0 F B
  | n + 1 => by
    have A := ok_alikeD F B at_ kp hb n
    have D : Dn P w K mg base (n + 1) "_law_alike" f (spAlike K n) := ⟨at_, kp, (A.raw hb .nil).imp fun vs H Q E h => by rw [List.append_nil]; exact h⟩
    have L := ok_alikel F B D
    have T := ok_aliket F B D
    refine ⟨fun vs H Q E h => ?_, fun A' outer s H args us vs Q E hr e0 hbd r h => ?_⟩
    · obtain ⟨a, b, rfl, _⟩ := h
      rfl
    · obtain ⟨a, b, e, h, k⟩ := h
      rcases h with h | ⟨p, q, xs, ys, rfl, rfl, hn, hP, ⟨h1, h2⟩ | ⟨h1, h2⟩⟩
      · exact (A.mono (Nat.le_succ _)).run A' outer s H args us vs Q E hr e0 hbd r ⟨a, b, e, h, k⟩
      · exact L.run A' outer s H args us vs Q E hr e0 hbd r ⟨p, q, xs, ys, e, h1, h2, hn, hP, k⟩
      · exact T.run A' outer s H args us vs Q E hr e0 hbd r ⟨p, q, xs, ys, e, h1, h2, hn, hP, k⟩
end
end Cc

/-! Texts: numbers in words, rows of a daybook. -/
namespace Cc
open PySem PySem.Spec PyProof.Rows L2 TL
/-! ### numbers in words -/
def digs (l : List Nat) : Bool := l.all fun c => decide (48 ≤ c ∧ c ≤ 57)
/-- the signs of a number without a sign before it -/
def natOk (l : List Nat) : Bool := !l.isEmpty && digs l && !(l.head? == some 48 && decide (1 < l.length))
abbrev valL (l : List Nat) : Nat := NumText.digitsVal l
def intL (l : List Nat) : Option Int :=
  if natOk l then some (valL l : Int) else match l with
  | 45 :: r => if natOk r && !(r == [48]) then some (-(valL r : Int)) else none
  | _ => none
def numOk (m : Int) (w : Str) : Bool := natOk (tl w) && decide ((valL (tl w) : Int) ≤ m)
/-- a word that is an integer from 0 to m -/
def inR (m : Int) : Option Int → Bool
  | none => false
  | some v => decide (0 ≤ v ∧ v ≤ m)
theorem digs_cons {c : Nat} {l : List Nat} : digs (c :: l) = (decide (48 ≤ c ∧ c ≤ 57) && digs l) := by
  unfold digs
  rw [List.all_cons]
theorem val_foldl_ge : ∀ (l : List Nat) (a : Nat), a ≤ l.foldl (fun acc c => acc * 10 + (c - 48)) a
  | [], a => Nat.le_refl a
  | c :: l, a => by
    rw [List.foldl_cons]
    exact Nat.le_trans (by omega) (val_foldl_ge l _)
theorem val_pos {c : Nat} {l : List Nat} (h : 48 < c) : 0 < valL (c :: l) := by
  show 0 < (c :: l).foldl (fun acc c => acc * 10 + (c - 48)) 0
  rw [List.foldl_cons]
  exact Nat.lt_of_lt_of_le (by omega) (val_foldl_ge l _)
theorem inR_intL (m : Int) (w : Str) : inR m (intL (tl w)) = numOk m w := by
  unfold intL numOk
  generalize tl w = l
  cases h : natOk l with
  | true =>
    show decide (0 ≤ (valL l : Int) ∧ (valL l : Int) ≤ m) = (true && decide ((valL l : Int) ≤ m))
    rw [Bool.true_and]
    exact decide_eq_decide.mpr ⟨fun z => z.2, fun z => ⟨by omega, z⟩⟩
  | false =>
    rw [Bool.false_and, if_neg (by decide)]
    split
    · rename_i r
      by_cases c : (natOk r && !(r == [48])) = true
      · rw [if_pos c]
        rw [Bool.and_eq_true] at c
        obtain ⟨c1, c2⟩ := c
        have hp : 0 < valL r := by
          unfold natOk at c1
          rw [Bool.and_eq_true, Bool.and_eq_true] at c1
          obtain ⟨⟨z1, z2⟩, z3⟩ := c1
          cases r with
          | nil => cases z1
          | cons d r =>
            rw [digs_cons, Bool.and_eq_true] at z2
            have hd := of_decide_eq_true z2.1
            refine val_pos ?_
            by_cases e : d = 48
            · subst e
              exfalso
              cases r with
              | nil => cases c2
              | cons d2 r => simp at z3
            · omega
        show decide (0 ≤ -(valL r : Int) ∧ -(valL r : Int) ≤ m) = false
        exact decide_eq_false fun z => by omega
      · rw [if_neg c]
        rfl
    · rfl
/-! ### rows -/
def isRoom (w : Str) : Bool := decide (w = "red") || decide (w = "blue")
def lastW (ws : List Str) : Str := ws.getLastD ""
def at0 (ws : List Str) (i : Nat) : Str := ws.getD i ""
def known (w : Str) : Bool := decide (w = "?") || numOk 1000000000000000000 w
def isTurnW (ws : List Str) : Bool := decide (ws = [Str.ofString "turn"])
def hasW (ws : List Str) : Bool := decide (ws.length = 3) && decide (at0 ws 1 = "has")
def carW (c : Int) (ws : List Str) : Bool := decide (ws.length = 4) && decide (at0 ws 2 = "carried") && numOk c (at0 ws 1)
def rowOk (c : Int) (ws : List Str) : Bool := isTurnW ws || (known (lastW ws) && isRoom (at0 ws 0) && (hasW ws || carW c ws))
def headV (ws : List Str) : Option Int := if decide (ws.length = 2) && decide (at0 ws 0 = "chairs") && numOk 1000000000000000000 (at0 ws 1) then some (valL (tl (at0 ws 1)) : Int) else none
def badFrom (c : Int) : Nat → List (List Str) → Option Nat
  | _, [] => none
  | k, ws :: r => if decide (k = 201) || !rowOk c ws then some k else badFrom c (k + 1) r
def badF (rows : List (List Str)) : Option Nat := match headV (rows.getD 0 []) with
  | none => some 0
  | some c => badFrom c 1 (rows.drop 1)
theorem badFrom_at {c : Int} : ∀ {l : List (List Str)} {k i : Nat} {ws : List Str}, (∀ j ws, j < i → l[j]? = some ws → ¬ (k + j = 201) ∧ rowOk c ws = true) → l[i]? = some ws → (k + i = 201 ∨ rowOk c ws = false) → badFrom c k l = some (k + i)
  | [], _, _, _, _, e, _ => by simp at e
  | w :: l, k, 0, ws, _, e, h => by
    have e' : w = ws := Option.some.inj e
    subst e'
    unfold badFrom
    rw [if_pos]
    · rfl
    · rcases h with h | h
      · rw [decide_eq_true (show k = 201 by omega)]
        rfl
      · rw [h, Bool.not_false, Bool.or_true]
  | w :: l, k, i + 1, ws, hj, e, h => by
    have h0 := hj 0 w (by omega) rfl
    unfold badFrom
    rw [if_neg (by rw [h0.2, decide_eq_false (by have := h0.1; omega)]; simp)]
    rw [badFrom_at (l := l) (i := i) (ws := ws) (fun j v hj2 hv => ?_) (by simpa using e) (by rcases h with h | h; exact .inl (by omega); exact .inr h)]
    · congr 1
      omega
    · have := hj (j + 1) v (by omega) (by simpa using hv)
      exact ⟨by omega, this.2⟩
theorem badFrom_none {c : Int} : ∀ {l : List (List Str)} {k : Nat}, (∀ j ws, l[j]? = some ws → ¬ (k + j = 201) ∧ rowOk c ws = true) → badFrom c k l = none
  | [], _, _ => rfl
  | w :: l, k, hj => by
    have h0 := hj 0 w rfl
    unfold badFrom
    rw [if_neg (by rw [h0.2, decide_eq_false (by have := h0.1; omega)]; simp)]
    exact badFrom_none fun j v hv => by
      have := hj (j + 1) v (by simpa using hv)
      exact ⟨by omega, this.2⟩
theorem badFrom_rep {c : Int} : ∀ {n k : Nat}, k ≤ 201 → badFrom c k (List.replicate n ["turn"]) = if 201 < k + n then some 201 else none
  | 0, k, h => by
    rw [if_neg (by omega)]
    rfl
  | n + 1, k, h => by
    rw [List.replicate_succ]
    unfold badFrom
    have ht : rowOk c ["turn"] = true := by
      unfold rowOk
      rw [show isTurnW ["turn"] = true from decide_eq_true rfl]
      rfl
    by_cases e : k = 201
    · subst e
      rw [if_pos (by rw [decide_eq_true rfl]; rfl), if_pos (by omega)]
    · rw [if_neg (by rw [ht, decide_eq_false e]; decide), badFrom_rep (by omega)]
      by_cases q : 201 < k + (n + 1)
      · rw [if_pos q, if_pos (by omega)]
      · rw [if_neg q, if_neg (by omega)]
/-! ### splitting and joining -/
abbrev lines (t : Str) : List Str := Txt.split t "\n"
abbrev wordsB (t : Str) : List Str := Txt.split t " "
abbrev rowsT (t : Str) : List (List Str) := (lines t).map wordsB
def tot (l : List Str) : Nat := (l.map fun x => x.length + 1).sum
theorem tot_append (a b : List Str) : tot (a ++ b) = tot a + tot b := by
  unfold tot
  rw [List.map_append, List.sum_append]
theorem tot_cons (a : Str) (b : List Str) : tot (a :: b) = a.length + 1 + tot b := by
  unfold tot
  rw [List.map_cons]; rw [List.sum_cons]
theorem tot_take_le (l : List Str) (n : Nat) : tot (l.take n) + tot (l.drop n) = tot l := by
  rw [← tot_append, List.take_append_drop]
theorem tot_mem {l : List Str} {x : Str} (h : x ∈ l) : x.length + 1 ≤ tot l := by
  induction l with
  | nil => cases h
  | cons a l ih =>
    rw [tot_cons]
    rcases (List.mem_cons.mp h) with rfl | h
    · omega
    · have := ih h
      omega
theorem tot_len (l : List Str) : l.length ≤ tot l := by
  induction l with
  | nil => exact Nat.zero_le _
  | cons a l ih =>
    rw [tot_cons, List.length_cons]
    omega
def totL (l : List (List Nat)) : Nat := (l.map fun x => x.length + 1).sum
theorem tot_tl (l : List Str) : tot l = totL (l.map tl) := by
  unfold tot totL
  rw [List.map_map]
  exact congrArg List.sum (List.map_congr_left fun x _ => (by rw [Function.comp, len_tl]))
theorem spl_tot (s : Nat) : ∀ (l acc : List Nat), totL (spl [s] 0 acc l) = acc.length + l.length + 1
  | [], acc => by
    rw [spl_nil]
    rfl
  | c :: r, acc => by
    by_cases h : pre [s] (c :: r) = true
    · rw [spl_hit h]
      show (acc.length + 1) + totL (spl [s] 0 [] r) = _
      rw [spl_tot s r [], List.length_nil, List.length_cons]
      omega
    · have h' : pre [s] (c :: r) = false := by simpa using h
      rw [spl_miss h', spl_tot s r, List.length_append, List.length_cons, List.length_cons, List.length_nil]
      omega
theorem spl_ne (S : List Nat) : ∀ (l acc : List Nat), spl S 0 acc l ≠ []
  | [], acc => by
    rw [spl_nil]
    simp
  | c :: r, acc => by
    by_cases h : pre S (c :: r) = true
    · rw [spl_hit h]
      simp
    · have h' : pre S (c :: r) = false := by simpa using h
      rw [spl_miss h']
      exact spl_ne S r _
theorem tl_nl : tl "\n" = [10] := by decide +kernel
theorem tl_sp : tl " " = [32] := by decide +kernel
theorem split_tot {t y : Str} {s : Nat} (hy : tl y = [s]) (hk : y.cps.all (· < 256) = true) : tot (Txt.split t y) = t.length + 1 ∧ Txt.split t y ≠ [] := by
  have e := split_spl t y (by rw [hy]; simp) (kind_ok hk)
  refine ⟨?_, fun z => ?_⟩
  · rw [tot_tl, e, hy, spl_tot, List.length_nil, len_tl]
    omega
  · rw [z, hy] at e
    exact spl_ne [s] (tl t) [] e.symm
theorem lines_tot (t : Str) : tot (lines t) = t.length + 1 ∧ lines t ≠ [] := split_tot tl_nl (by decide +kernel)
theorem words_tot (t : Str) : tot (wordsB t) = t.length + 1 ∧ wordsB t ≠ [] := split_tot tl_sp (by decide +kernel)
theorem sum_len (ys : List Str) : (ys.map (·.length)).sum + ys.length = tot ys := by
  induction ys with
  | nil => rfl
  | cons a l ih =>
    rw [tot_cons, List.map_cons, List.sum_cons, List.length_cons]
    omega
theorem join_len_le {y : Str} (hy : y.length = 1) : ∀ (l : List Str), (Txt.join y l).length ≤ tot l := by
  intro l
  rw [join_eq]
  have : ∀ l : List (List Nat), (joinL (tl y) l).length ≤ totL l := by
    intro l
    induction l with
    | nil => exact Nat.zero_le _
    | cons p r ih =>
      cases r with
      | nil => exact Nat.le_add_right _ _
      | cons q r =>
        show (p ++ (tl y ++ joinL (tl y) (q :: r))).length ≤ (p.length + 1) + totL (q :: r)
        rw [List.length_append, List.length_append, ← len_tl, hy]
        omega
  rw [len_tl, tl_join, tot_tl]
  exact this _
end Cc

set_option maxHeartbeats 1200000
/-! Own rule: for i, x in enumerate(list, start=k). -/
namespace Cc
open PySem PySem.Spec PyProof.Rows L2
theorem next_enumL_end {prog : Program} {w : World} {A : Around} {Ez : Value → Shared → Prop} {s : Shared} {e it t : Addr} {i : Nat} {items : Array Value} {c : Int} {olz : Value} {Qz : Option Value → Shared → Prop} (kx : items[i]? = none)
    (kh : A.in1.handled = none) (ke : IsEnum s.heap e it c olz) (kit : s.heap.IsListIter it t i) (ht : s.heap.IsList t items)
    (hQ : ∀ h', Heap.ExtBut it s.heap h' → Qz none { s with heap := h' }) : wpAny (model prog w) A (pyNext (.ref e)) Qz Ez s := by
  have kT : s.TypeIs (.ref e) "enumerate" := ⟨_, ke, rfl⟩
  unfold pyNext
  refine wpAny_bind (wpAny_attempt (wpAny_callSpecial?_slot (name := Str.ofString "__next__") kT F.slot_enumerate_next
    (wpAny_call_entry F.slot_enumerate_next kT F.entry_enumerate_next ?_ (F.args_enumerate_next_1 _))))
  show wpAny _ _ (field (Value.ref e) 2 >>= _) _ _ s
  refine wpAny_bind (wpAny_field ke rfl (x := .ref it) rfl ?_)
  refine wpAny_bind (wpAny_nextOf_list_end kh kit ht kx fun h' x ke' hx' => ?_)
  obtain ⟨o, ko, kc⟩ := hx'
  refine wpAny_bind (wpAny_isInstance (T := "StopIteration") (b := true) ⟨o, ko, kc⟩ isSubtype_stop ?_)
  exact wpAny_pure (hQ _ ke')
/-- the list at a, each item in a fresh pair with the count from k on -/
def IteS (K : PySem.W.Frag) (a : Addr) (k : Int) : It :=
  ⟨fun i Hh => ∃ (xs : List V) (x : V), SqL K Hh a xs ∧ xs[i]? = some x, fun i Hh v H' => ∃ T x, v = .ref T ∧ Hh T = none ∧ H' = upd Hh T (.tup [.int (k + (i : Nat)), x]) ∧ ∀ xs, SqL K Hh a xs → xs[i]? = some x, fun i Hh => ∃ xs : List V, SqL K Hh a xs ∧ xs.length ≤ i⟩
theorem turn_enumS {P : Program} {w : World} {K : PySem.W.Frag} {elts : List Expr} {kk : Nat} {tpos : Pos} (a e it : Addr) (k : Int) :
    Turn P w K (.Tuple elts kk tpos) (IteS K a k) [e, it] e (fun i h => (∃ olz, IsEnum h e it (k + ((i : Nat) : Int)) olz) ∧ h.IsListIter it a i ∧ e ≠ it ∧ a ≠ e ∧ a ≠ it) where
  mem := by simp
  obj := fun i h st b kb => by
    obtain ⟨⟨olz, ke⟩, ⟨o, ko, kc, kd⟩, _⟩ := st
    have ee : b = e ∨ b = it := by simpa using kb
    rcases ee with z | z
    · rw [z]; exact ⟨_, ke, fun v qz => nomatch qz⟩
    · rw [z]; exact ⟨o, ko, fun v qz => by rw [kd] at qz; cases qz⟩
  keep := fun i h h' st k => let ⟨⟨olz, ke⟩, hi, kne⟩ := st; ⟨⟨olz, k e (by simp) _ ke⟩, hi.at fun o qz => k it (by simp) o qz, kne⟩
  item := by
    intro X kP kw kK kc i pz s sg Hh Ez J kf st kg
    subst kP kw kK
    obtain ⟨⟨olz, ke⟩, kit, kne, kae, kai⟩ := st
    obtain ⟨xs, x, kq, kx⟩ := kg
    obtain ⟨vz, rw1, p, kz⟩ := J.list kq
    have kel : e < s.heap.objs.size := Heap.lt_size ke
    have kil : it < s.heap.objs.size := by obtain ⟨_, qz, _⟩ := kit; exact Heap.lt_size qz
    have hix : i < vz.toArray.size := by
      have := rw1.length
      have h2 := (List.getElem?_eq_some_iff.mp kx).1
      rw [List.size_toArray]
      omega
    have Dz := Draws.list (prog := X.prog) (w := X.w) (A := X.A.in1) (show X.A.in1.handled = none from J.ok.hd kc) it a kai vz.toArray
    refine wpAny_pyNext_enum_itemC Dz ke ⟨kit, p.isList⟩ hix kne (by simp [kne, Ne.symm kae]) fun u h' tk ku ko hit' kT ksz kk => ?_
    have ru : RelV x u := by
      obtain ⟨u2, hu2, r2⟩ := rw1.get kx
      have e3 : u2 = u := by
        have ku' : vz[i]? = some u := by simpa using ku
        exact Option.some.inj (hu2.symm.trans ku')
      exact e3 ▸ r2
    refine ⟨_, rfl, wpAny_letOwnedTupleGo_enum (s := { s with heap := h', toks := tk + 1 }) ko fun h'' ke' sbz => ?_⟩
    have kT2 : h''.get? s.heap.objs.size = some { cls := .type "tuple", data := .seq #[.int (k + (i : Nat)) tk, u] } := (sbz.2 _ (Nat.ne_of_gt kel)).trans kT
    have nw : ObjOk X.prog X.w (upd Hh s.heap.objs.size (.tup [.int (k + (i : Nat)), x])) h'' s.heap.objs.size (.tup [.int (k + (i : Nat)), x]) :=
      ⟨by show 2 ≤ sizeLine; decide, [.int (k + (i : Nat)) tk, u], .cons ⟨_, rfl⟩ (.cons ru .nil), ⟨_, kT2, rfl, _, rfl⟩⟩
    have J1 : Inv X pz sg (upd Hh s.heap.objs.size (.tup [.int (k + (i : Nat)), x])) { s with heap := h'', toks := tk + 1 } :=
      J.turnedNew (ch := [e, it]) (fun b ob kb qz => (sbz.2 b (fun z => kb (by simp [z]))).trans (kk b ob (fun z => kb (by simp [z])) (fun z => kb (by simp [z])) qz)) kf (Nat.le_refl _) nw
    refine ⟨.ref s.heap.objs.size, _, J1, rfl, ⟨_, x, rfl, J.hok.fresh (Nat.le_refl _), rfl, fun ys hy => by rw [J.list_inj hy kq]; exact kx⟩, ⟨⟨u, ?_⟩, hit'.1.at fun o qz => (sbz.2 it (Ne.symm kne)).trans qz, kne, kae, kai⟩, fun b kb => ?_⟩
    · have e1 : k + (((i + 1 : Nat)) : Int) = k + (i : Int) + 1 := by omega
      rw [e1]; exact ke'
    · have kb' : b < s.heap.objs.size := by
        have ee : b = e ∨ b = it := by simpa using kb
        rcases ee with z | z
        · rw [z]; exact kel
        · rw [z]; exact kil
      rw [upd_ne (Nat.ne_of_lt kb')]
      exact (kf b kb).1
  done := by
    intro X kP kw kK kc i pz s sg Hh Ez J kf st kg
    subst kP kw kK
    obtain ⟨⟨olz, ke⟩, kit, kne, kae, kai⟩ := st
    obtain ⟨xs, kq, kx⟩ := kg
    obtain ⟨vz, rw1, p, kz⟩ := J.list kq
    obtain ⟨f0, f1, f2, f3, f4, f5⟩ := kf it (by simp)
    have hl := rw1.length
    exact next_enumL_end (by simp; omega) (show X.A.in1.handled = none from J.ok.hd kc) ke kit p.isList fun h' eb => ⟨rfl, J.turned (t' := s.toks) (fun b o kb qz => eb b o kb qz) f0 f1 f3 f4 f5⟩
  self := fun A i s Qz Ez st h => let ⟨⟨_, ke⟩, _⟩ := st; wpAny_pyIter_enum ke h
section
variable {M : Model} {A : Around} {Ez : Value → Shared → Prop} {s : Shared} {env : Env}
theorem callWith_tyK {pos : Pos} {T : String} {e : Expr} {rest : List Expr} {kws : List Keyword} {Qz : Value → Shared → Prop}
    (h : wpAny M A (spliced (backTo pos (starEach (e :: rest) env))) (fun vs s1 => wpAny M A (evalAll ((backToKw pos (keywordEach kws env)).map (·.2)))
      (fun kvs s2 => wpAny M A (call (.type T) vs (((backToKw pos (keywordEach kws env)).filterMap (·.1)).zip kvs)) Qz Ez s2) Ez s1) Ez s)
    (he : backTo pos (starEach (e :: rest) env) = (false, eval e env) :: backTo pos (starEach rest env))
    (kpl : (backTo pos (starEach (e :: rest) env)).any (·.1) = false)
    (kall : (backToKw pos (keywordEach kws env)).all (·.1.isSome) = true)
    (kkw : (backToKw pos (keywordEach kws env)).any (·.1.isNone) = false) :
    wpAny M A (callWith pos (.type T) [] (backTo pos (starEach (e :: rest) env)) (backToKw pos (keywordEach kws env))) Qz Ez s := by
  have h2 : wpAny M A (evalArgs (.type T) true (backTo pos (starEach (e :: rest) env)) (backToKw pos (keywordEach kws env))) (fun a s1 => wpAny M A (call (.type T) ([] ++ a.pos) a.kw) Qz Ez s1) Ez s := by
    rw [he] at h ⊢
    exact PyProof.Rows.evalArgs_kwB kall h
  unfold callWith
  refine wpAny_bind (wpAny_holding (wpAny_mono h2 (fun a s1 h1 => wpAny_bind (wpAny_standAt ?_)) fun _ _ x => x))
  simp only [kpl, kkw, Bool.or_false]
  refine wpAny_bind (wpAny_pure (?_))
  exact wpAny_bind (wpAny_mono h1 (fun r s2 hr => wpAny_bind (wpAny_holding (wpAny_point (wpAny_pure hr)))) fun _ _ x => x)
end
def iEnumS (K : PySem.W.Frag) (ta tk : TA) : TI := fun sg Hh R => ta sg Hh fun vs H1 => tk sg H1 fun zs H2 => ∃ a xs k, vs = [.ref a] ∧ zs = [.int k] ∧ 0 ≤ k ∧ k < 1000 ∧ SqL K H2 a xs ∧ R (IteS K a k) H2
theorem pi_enumS {X : Cx} {e : Expr} {kws : List Keyword} {ta tk : TA} {p pos tpos : Pos} {elts : List Expr} {kk : Nat} (kg : Gl X "enumerate") (km : X.mg "enumerate" = none) (ka : PA X [e] ta) (kw : PK X kws tk)
    (he : backTo pos (starEach [e] X.env) = (false, eval e X.env) :: backTo pos (starEach [] X.env) := by rfl) (hpl : (backTo pos (starEach [e] X.env)).any (·.1) = false := by rfl)
    (hall : (backToKw pos (keywordEach kws X.env)).all (·.1.isSome) = true := by rfl) (hnone : (backToKw pos (keywordEach kws X.env)).any (·.1.isNone) = false := by rfl) (hks : (backToKw pos (keywordEach kws X.env)).filterMap (·.1) = [Str.ofString "start"] := by rfl) :
    PI X (.Tuple elts kk tpos) (.Call (.Name "enumerate" p) [e] kws pos) (iEnumS X.K ta tk) := by
  refine ⟨fun pz s sg Hh R J h => ?_⟩
  refine wpAny_Call_Name_kw (ld_blt J kg km boot_enumerate ?_)
  refine callWith_tyK (thn (ka.run pos pz s sg Hh _ J h) fun us s1 ⟨vs, H1, J1, r1, q1⟩ => thn (kw.run pos pz s1 sg H1 _ J1 q1) fun ws s2 ⟨zs, H2, J2, r2, q2⟩ => ?_) he hpl hall hnone
  rw [hks]
  obtain ⟨a, xs, k, ex, ez, k0, k1, kq, qz⟩ := q2
  subst ex ez
  cases r1 with
  | cons r rr =>
    cases rr
    cases r
    cases r2 with
    | cons r' rr' =>
      cases rr'
      obtain ⟨t, rfl⟩ := r'
      obtain ⟨vz, rw1, p', kz⟩ := J2.list kq
      have hal : a < s2.heap.objs.size := p'.lt
      show wpAny (model X.prog X.w) X.A (call (.type "enumerate") [.ref a] [(Str.ofString "start", .int k t)]) _ _ _
      refine enum_begins_start (begins_list a vz.toArray) p'.isList (by omega) (by omega) fun h' ke kit ksz kk => wpAny_pyIter_enum ke ?_
      have J3 : Inv X pz sg H2 { s2 with heap := h' } := J2.kept (t' := s2.toks) kk
      refine ⟨s2.heap.objs.size + 1, [s2.heap.objs.size + 1, s2.heap.objs.size], _, _, H2, rfl, J3, turn_enumS a (s2.heap.objs.size + 1) s2.heap.objs.size k, ⟨⟨.none, by rw [show k + ((0 : Nat) : Int) = k by omega]; exact ke⟩, ⟨_, kit, rfl, rfl⟩, Nat.succ_ne_self _, Nat.ne_of_lt (Nat.lt_succ_of_lt hal), Nat.ne_of_lt hal⟩, fun b kb => ?_, qz⟩
      have ee : b = s2.heap.objs.size + 1 ∨ b = s2.heap.objs.size := by simpa using kb
      have kle : s2.heap.objs.size ≤ b := by
        rcases ee with z | z
        · subst z; exact Nat.le_succ _
        · rw [z]; exact Nat.le_refl _
      exact J2.fpOk kle (J2.hok.fresh kle)
theorem walk_enumS {K : PySem.W.Frag} {a : Addr} {k : Int} {xs : List V} : Walk (IteS K a k) xs.length (fun Hh => SqL K Hh a xs) (YPair (fun i => some (.int (k + (i : Nat)))) (fun i => xs[i]?)) := by
  refine ⟨fun i _ hi qz => ⟨xs, xs[i], qz, by simp [hi]⟩, fun _ qz => ⟨xs, qz, Nat.le_refl _⟩, fun i Hh v H' _ qz y => ?_⟩
  obtain ⟨T, x, g1, g2, g3, g4⟩ := y
  exact ⟨T, .int (k + (i : Nat)), x, g1, g2, g3, rfl, g4 xs qz⟩
end Cc

/-! Own rules for texts; readings of texts. -/
namespace Cc
open PySem PySem.Spec PyProof.Rows L2 TL
section
variable {X : Cx}
def rMulS : R2 := fun x y H Q => ∃ (a : Str) (n : Int), x = .str a ∧ y = .int n ∧ MulOk a n ∧ Q (.str (Txt.mul a n)) H
theorem op_mulS : OpR X (binaryOp .Mult) rMulS := by
  intro pins s σ H x y v u Q I rx ry g
  obtain ⟨i, j, rfl, rfl, hm, q⟩ := g
  obtain ⟨t, rfl⟩ := rx
  obtain ⟨t', rfl⟩ := ry
  exact PySem.SB.mul hm fun t' k => ⟨.str _, H, I.tok _, ⟨_, rfl⟩, q⟩
abbrev rLeS : R2 := fun x y H Q => ∃ i j, x = .str i ∧ y = .str j ∧ Q (.bl (!decide (j.cps.toList < i.cps.toList))) H
abbrev rNotInSg : R2 := fun x y H Q => ∃ (c : Nat) (z : Str), x = .str ⟨#[c]⟩ ∧ y = .str z ∧ Q (.bl (!decide (c ∈ z.cps.toList))) H
abbrev rSplit : V → List V → Hp → VK → Prop := fun x xs H Q => ∃ a b, x = .str a ∧ xs = [.str b] ∧ (b.length == 0) = false ∧ a.length + 2 ≤ sizeLine ∧ rNewStrs (Txt.split a b) H Q
end
end Cc

/-! Numbers that may be missing; words that are integers. -/
namespace Cc
open PySem PySem.Spec PyProof.Rows L2 TL
def spIsWholeO : Sp := fun vs H Q _ => ∃ o : Option Int, vs = [goalV o] ∧ Q (.bl o.isSome) H
def spIsNumO : Sp := fun vs H Q _ => ∃ (o : Option Int) (m : Int), vs = [goalV o, .int 0, .int m] ∧ Q (.bl (inR m o)) H
def spIntIn : Sp := fun vs H Q _ => ∃ x : Str, vs = [.str x] ∧ x.length ≤ 600 ∧ ∀ H', Same H H' → Q (goalV (intL (tl x))) H'
def undash : List Nat → List Nat
  | 45 :: r => r
  | l => l
theorem tl_dash : tl "-" = [45] := by decide +kernel
theorem tl_undash (x : Str) : tl (Txt.removeprefix x "-") = undash (tl x) := by
  unfold Txt.removeprefix Txt.affix
  have hl : Str.length "-" = 1 := by decide +kernel
  have e : Builtin.Str.subAt x "-" 0 = pre (tl "-") ((tl x).drop 0) := by
    rw [PySem.StrLaws.subAt_eq, hl]
    unfold pre
    rw [tl_dash]
    rfl
  rw [e, tl_dash, List.drop_zero, hl]
  cases h : tl x with
  | nil =>
    show tl (match (if pre [45] [] then some (1, x.length) else none) with | some (i, j) => Builtin.Str.strSub x i j | none => x) = _
    rw [if_neg (by decide)]
    exact h
  | cons c r =>
    by_cases hc : c = 45
    · subst hc
      rw [if_pos (by show ((45 :: r).take 1 == [45]) = true; rfl)]
      have hx : x.length = r.length + 1 := by rw [len_tl, h]; rfl
      show tl (if (x.length - 1 == x.length) = true then x else Builtin.Str.strSub x 1 x.length) = r
      rw [if_neg (by rw [beq_iff_eq]; omega), tl_strSub_end, h]
      rfl
    · have hp : pre [45] (c :: r) = false := pre_of_head [] r hc
      rw [hp, if_neg (by decide)]
      show tl x = undash (c :: r)
      rw [h]
      unfold undash
      split
      · rename_i e
        injection e with e1 e2
        exact absurd e1 hc
      · rfl
def intD (l L : List Nat) : Option Int := if (L.isEmpty || !digs L) = true then none else if L.head? = some 48 ∧ l ≠ [48] then none else if L = l then some (valL L : Int) else some (-(valL L : Int))
theorem intL_D (l : List Nat) : intL l = intD l (undash l) := by
  by_cases hd : ∃ r, l = 45 :: r
  · obtain ⟨r, rfl⟩ := hd
    have h0 : natOk (45 :: r) = false := by
      unfold natOk
      rw [digs_cons]
      simp
    unfold intL
    rw [h0, if_neg (by decide)]
    show (if natOk r && !(r == [48]) then some (-(valL r : Int)) else none) = intD (45 :: r) r
    unfold intD natOk
    cases r with
    | nil => rfl
    | cons c r =>
      have hne : (c :: r) ≠ 45 :: (c :: r) := fun z => by
        have := congrArg List.length z
        simp at this
      rw [if_neg hne]
      cases hg : digs (c :: r) with
      | false => simp
      | true =>
        by_cases h48 : c = 48
        · subst h48
          cases r <;> simp
        · have h1 : ((c :: r) == [48]) = false := by simp [h48]
          rw [h1]
          simp [h48]
  · have hu : undash l = l := by
      unfold undash
      split
      · rename_i r
        exact absurd ⟨r, rfl⟩ hd
      · rfl
    rw [hu]
    have hm : intL l = if natOk l = true then some (valL l : Int) else none := by
      unfold intL
      by_cases c : natOk l = true
      · rw [if_pos c, if_pos c]
      · rw [if_neg c, if_neg c]
        split
        · rename_i r
          exact absurd ⟨r, rfl⟩ hd
        · rfl
    rw [hm]
    unfold intD
    rw [if_pos rfl]
    unfold natOk
    cases l with
    | nil => rfl
    | cons c r =>
      cases hg : digs (c :: r) with
      | false => simp
      | true =>
        by_cases h48 : c = 48
        · subst h48
          cases r <;> simp
        · simp [h48]
theorem sign_in (c : Nat) : decide (c ∈ (Str.ofString "0123456789").cps.toList) = decide (48 ≤ c ∧ c ≤ 57) := by
  have e : ((Str.ofString "0123456789").cps.toList) = [48, 49, 50, 51, 52, 53, 54, 55, 56, 57] := by decide +kernel
  rw [e]
  refine decide_eq_decide.mpr ?_
  simp only [List.mem_cons, List.not_mem_nil, or_false]
  omega
def offL (l : List Nat) : List Bool := l.map fun c => !decide (48 ≤ c ∧ c ≤ 57)
theorem offL_any (l : List Nat) : (offL l).any id = !digs l := by
  unfold offL digs
  induction l with
  | nil => rfl
  | cons c l ih =>
    rw [List.map_cons, List.any_cons, List.all_cons, ih, Bool.not_and]
    rfl
theorem val_snoc (l : List Nat) (c : Nat) : valL (l ++ [c]) = valL l * 10 + (c - 48) := by
  show (l ++ [c]).foldl (fun acc c => acc * 10 + (c - 48)) 0 = _
  rw [List.foldl_append]
  rfl
theorem digs_mem {l : List Nat} (h : digs l = true) : ∀ c ∈ l, 48 ≤ c ∧ c ≤ 57 := fun c hc => of_decide_eq_true (List.all_eq_true.mp h c hc)
theorem digit_int {c : Nat} (h : 48 ≤ c ∧ c ≤ 57) : PySem.intText? ⟨#[c]⟩ = some (((c - 48 : Nat) : Int)) := by
  have e := PySem.intText_digits (x := ⟨#[c]⟩) (show NumText.AllDigits [c] from fun d hd => by rw [List.mem_singleton.mp hd]; exact h) (by simp) (by show 1 ≤ 4300; decide)
  rw [e]
  show some (((([c] : List Nat).foldl (fun acc c => acc * 10 + (c - 48)) 0 : Nat) : Int)) = _
  simp
theorem cps_get (z : Str) (i : Nat) : z.cps[i]? = (tl z)[i]? := by
  show _ = z.cps.toList[i]?
  rw [Array.getElem?_toList]
theorem str_ne {a b : Str} : decide (V.str a = V.str b) = decide (a = b) := decide_eq_decide.mpr ⟨fun z => by injection z, fun z => by rw [z]⟩
theorem str_tl {a b : Str} : a = b ↔ tl a = tl b := ⟨fun z => by rw [z], ext_tl⟩
section
variable {P : Program} {w : World} {K : PySem.W.Frag} {mg : Str → Option Value} {base : Heap}
theorem ok_iswholeO {f : Addr} {fd : FuncData} (F : Fun K "is_whole" "is_whole" sIsWhole f fd) (B : Bt mg) : FnOk P w K mg base CX0 0 f fd ["value"] spIsWholeO := by
  refine fn_low F scIsWhole (fun vs H Q E h => ?_) (fun cdv A outer s H vs Q E h => ?_)
  · obtain ⟨v, rfl, _⟩ := h
    rfl
  · obtain ⟨o, rfl, k⟩ := h
    refine ⟨_, pss_one (ps_ret (pe_and (pe_callB call_isi (by rfl) B.isinstance (by decide +kernel) (pa_cons (pv 0) (pa_cons (pe_bltn (v := .ty "int") (by rfl) B.int (by decide +kernel) rfl) pa_nil)))
      (pe_one (pe_not (pe_callB call_isi (by rfl) B.isinstance (by decide +kernel) (pa_cons (pv 0) (pa_cons (pe_bltn (v := .ty "bool") (by rfl) B.bool (by decide +kernel) rfl) pa_nil))))))), ?_⟩
    cases o with
    | none =>
      refine ⟨_, rfl, _, _, _, _, false, rfl, .ty "int", .base .non, kit_ty (by decide +kernel), false, rfl, ?_⟩
      exact iteF k
    | some v =>
      refine ⟨_, rfl, _, _, _, _, true, rfl, .ty "int", .base (.int v), kit_ty (by decide +kernel), true, rfl, ?_⟩
      exact iteT ⟨_, rfl, _, _, _, _, false, rfl, .ty "bool", .base (.int v), kit_ty (by decide +kernel), false, rfl, k⟩
theorem ok_isnumO {f fW : Addr} {fd : FuncData} (F : Fun K "is_number" "is_number" sIsNum f fd) (W : Dn P w K mg base 0 "is_whole" fW spIsWholeO) : FnOk P w K mg base CX0 1 f fd ["value", "least", "most"] spIsNumO := by
  refine F.ok scIsNum (fun vs H Q E h => ?_) (fun cdv A outer s H vs Q E hr h => ?_)
  · obtain ⟨v, m, rfl, _⟩ := h
    rfl
  · obtain ⟨o, m, rfl, k⟩ := h
    refine ⟨_, pss_one (ps_ret (pe_and (pe_callR W.ok hr rfl W.at_ W.kp pass0 (pa_cons (pv 0) pa_nil))
      (pe_one (pe_chain op_le op_le (pv 1) (pv 0) (pv 2))))), ?_⟩
    cases o with
    | none =>
      refine ⟨_, rfl, none, rfl, false, rfl, ?_⟩
      exact iteF k
    | some v =>
      refine ⟨_, rfl, some v, rfl, true, rfl, ?_⟩
      refine iteT ⟨_, rfl, _, rfl, _, _, rfl, rfl, _, rfl, ?_⟩
      have e0 : inR m (some v) = decide (0 ≤ v ∧ v ≤ m) := rfl
      rw [e0] at k
      by_cases c : 0 ≤ v
      · rw [decide_eq_true c]
        refine iteT ⟨_, rfl, _, _, rfl, rfl, ?_⟩
        have e : decide (v ≤ m) = decide (0 ≤ v ∧ v ≤ m) := by simp [c]
        show Q (V.bl (decide (v ≤ m))) H
        rw [e]
        exact k
      · rw [decide_eq_false c]
        refine iteF ?_
        rw [decide_eq_false (fun z => c z.1)] at k
        exact k
abbrev s_integer_in : Stmt := top 22
abbrev n_integer_in : List Str := ["word", "digits", "number", "digit", "letter"]
theorem sc_integer_in : FnScope n_integer_in ["word"] (defScope s_integer_in) := ⟨rfl, rfl, rfl, by decide +kernel, rfl, by decide +kernel, by decide +kernel⟩
theorem ok_integer_in {f : Addr} {fd : FuncData} (F : Fun K "integer_in" "integer_in" s_integer_in f fd) (B : Bt mg) (g_DIGITS : ∃ u, mg "DIGITS" = some u ∧ RelV (.str "0123456789") u) : FnOk P w K mg base CX0 1 f fd ["word"] spIntIn := by
  refine F.ok sc_integer_in (fun vs H Q E h => ?_) (fun cdv A outer s H vs Q E hr h => ?_)
  · obtain ⟨x, rfl, _⟩ := h
    rfl
  · obtain ⟨x, rfl, hl, kk⟩ := h
    obtain ⟨u_DIGITS, m_DIGITS, r_DIGITS⟩ := g_DIGITS
    refine ⟨_, pss_cons (ps_set (i := 1) sc_integer_in.nd rfl (.inl rfl) (pe_m1 PySem.F.slot_str_removeprefix PySem.F.type_str_removeprefix mt_removeprefix (pv 0) pe_str))
      (C8.pss_cut (ps_if (PW.pt (pw_or (pt_cmpR op_eq (pv 1) pe_str (nomark _)) (pw_or1 (pt_val (pe_callB (cr_any rfl) (by rfl) B.any (by decide +kernel) (pa_cons (pe_lc (own := [("letter", 4)]) (g := gName 4) (tt := tYes) (te := (tOp rNotInSg (tVar 4) (tC (.str "0123456789")))) rfl sc_integer_in.nd (pi_str (pv 1)) (blkOk_by (N := n_integer_in) (sc := defScope s_integer_in) (by decide +kernel)) (fun _ _ _ _ _ => pg_name (i := 4) sc_integer_in.nd rfl (.inl rfl)) (fun _ _ _ _ _ => by exact pts_nil) (fun _ _ _ _ _ => by exact (pe_cmpR op_notIn_sign (pv 4) (pe_glob rfl m_DIGITS r_DIGITS) (by rfl)))) pa_nil))))))
        (pss_one (ps_ret pe_non)) pss_nil)
      (C8.pss_cut (ps_if (PW.pt (pw_and (pt_cmpR op_eq (pe_ix ix_str (pv 1) pe_int (fun _ _ => rfl)) pe_str (nomark _)) (pw_and1 (pt_cmpR op_ne (pv 0) pe_str (nomark _)))))
        (pss_one (ps_ret pe_non)) pss_nil)
      (pss_cons (ps_set (i := 2) sc_integer_in.nd rfl (.inl rfl) pe_int)
      (pss_cons (ps_for PassesOwn.never rfl (pi_str (pv 1)) (pg_name (i := 3) sc_integer_in.nd rfl (.inl rfl))
        (pss_one (ps_set (i := 2) sc_integer_in.nd rfl (.inl rfl) (pe_op op_add (pe_op op_mul (pv 2) pe_int) (pe_callTy call_int_str (by rfl) B.int (by decide +kernel) (pa_cons (pv 3) pa_nil))))))
      (pss_one (ps_ret (pe_ifExp (pt_cmpR op_eq (pv 1) (pv 0) (nomark _)) (pv 2) (pe_un un_neg (pv 2))))))))), ?_⟩
    refine ⟨_, rfl, ⟨x, rfl⟩, x, _, rfl, rfl, Nat.le_trans hl (by decide), ?_⟩
    have eD := tl_undash x
    have e0 := intL_D (tl x)
    rw [← eD] at e0
    have hD : (Txt.removeprefix x "-").length ≤ 600 := by
      have : (tl (Txt.removeprefix x "-")).length ≤ (tl x).length := by
        rw [eD]
        unfold undash
        split
        · rename_i h
          rw [h, List.length_cons]
          omega
        · exact Nat.le_refl _
      rw [len_tl]
      exact Nat.le_trans this (by rw [← len_tl]; exact hl)
    generalize Txt.removeprefix x "-" = D at *
    clear eD
    unfold intD at e0
    refine ⟨fun σ H' => σ = [some (.str x), some (.str D), none, none, none] ∧ Same H H' ∧ (tl D).isEmpty = false ∧ digs (tl D) = true, ?_, ?_⟩
    · refine ⟨_, rfl, rfl, _, rfl, ?_⟩
      by_cases c : tl D = []
      · have eD : D = "" := str_tl.mpr (by rw [c]; decide +kernel)
        refine ifT (by rw [str_ne]; exact decide_eq_true eD) ?_
        have := kk H (Same.refl H)
        rw [e0, c] at this
        exact this
      · have c1 : (tl D).isEmpty = false := by
          cases h : tl D with
          | nil => exact absurd h c
          | cons a b => rfl
        refine ifF (by rw [str_ne]; exact decide_eq_false fun z => c (by rw [z]; decide +kernel)) ⟨_, rfl, D, rfl, fun l hl0 => ?_⟩
        have s0 := same_upd (o := .lst []) hl0
        refine lc_it walk_str (fun i H' => Same H H' ∧ H' l = some (.lst ((offL ((tl D).take i)).map V.bl))) ⟨s0, upd_same⟩ (fun _ _ _ _ => trivial) ?_ ?_
        · rintro i v H1 H2 hi ⟨s1, g1⟩ ⟨rfl, cc, hc, rfl⟩
          rw [cps_get] at hc
          refine ⟨rfl, _, rfl, cc, _, rfl, rfl, _, g1, ?_, same_new hl0 s1, upd_lst ?_⟩
          · rw [List.length_map]
            unfold offL
            rw [List.length_map, List.length_take, ← len_tl, sizeLine_eq]
            omega
          · rw [sign_in, take_more hc]
            unfold offL
            rw [List.map_append, List.map_append]
            rfl
        · rintro H1 ⟨s1, g1⟩
          have ez : (tl D).take D.cps.size = tl D := List.take_of_length_le (by rw [← len_tl]; exact Nat.le_refl _)
          rw [ez] at g1
          refine ⟨l, _, rfl, SqL.of g1, _, rfl, ?_⟩
          rw [offL_any]
          cases hg : digs (tl D) with
          | false =>
            refine iteT ?_
            have := kk H1 s1
            rw [e0, hg, c1] at this
            exact this
          | true => exact iteF ⟨rfl, s1, c1, rfl⟩
    rintro σ H1 ⟨rfl, s1, d1, d2⟩
    rw [d1, d2, if_neg (by decide)] at e0
    obtain ⟨c0, r0, eL⟩ : ∃ c0 r0, tl D = c0 :: r0 := by
      cases h : tl D with
      | nil =>
        rw [h] at d1
        cases d1
      | cons a b => exact ⟨a, b, rfl⟩
    refine ⟨fun σ H' => σ = [some (.str x), some (.str D), none, none, none] ∧ H' = H1 ∧ ¬ ((tl D).head? = some 48 ∧ tl x ≠ [48]), ?_, ?_⟩
    · refine ⟨_, rfl, D, 0, c0, rfl, rfl, Nat.le_trans hD (by decide), (by have e := atI_nat (xs := tl D) (j := 0) (v := c0) (by rw [eL]; rfl); exact e), rfl, _, rfl, ?_⟩
      by_cases h48 : c0 = 48
      · refine ifT (by rw [str_ne, h48]; exact decide_eq_true (str_tl.mpr (by decide +kernel))) ⟨_, rfl, rfl, _, rfl, ?_⟩
        by_cases hx : tl x = [48]
        · exact ifF (by rw [str_ne, decide_eq_true (str_tl.mpr (by rw [hx]; decide +kernel))]; rfl) ⟨rfl, rfl, fun z => z.2 hx⟩
        · refine ifT (by rw [str_ne, decide_eq_false (fun z => hx (by rw [str_tl.mp z]; decide +kernel))]; rfl) ?_
          have := kk H1 s1
          rw [e0, if_pos ⟨by rw [eL, h48]; rfl, hx⟩] at this
          exact this
      · refine ifF (by rw [str_ne]; exact decide_eq_false fun z => h48 (by have := str_tl.mp z; rw [show tl (Str.ofString "0") = [48] by decide +kernel] at this; injection this with this _)) (iteF ⟨rfl, rfl, fun z => h48 (by have := z.1; rw [eL] at this; injection this with this)⟩)
    rintro σ H2 ⟨rfl, rfl, hz⟩
    rw [if_neg hz] at e0
    refine ⟨_, rfl, D, rfl, for_it walk_str (fun i σ H' => ∃ y, σ = [some (.str x), some (.str D), some (.int (valL ((tl D).take i) : Nat)), y, none] ∧ H' = H2) ⟨none, rfl, rfl⟩ (fun _ _ _ _ _ => trivial) ?_ ?_⟩
    · rintro i v σ H3 H4 hi ⟨y, rfl, rfl⟩ ⟨rfl, cc, hc, rfl⟩
      rw [cps_get] at hc
      have hm := digs_mem d2 cc (List.mem_of_getElem? hc)
      refine ⟨_, rfl, _, _, rfl, rfl, .inr ⟨by decide, by decide⟩, _, rfl, _, _, rfl, digit_int hm, (by show 1 ≤ 640; decide), _, _, rfl, rfl, some (.str ⟨#[cc]⟩), ?_, rfl⟩
      rw [take_more hc, val_snoc]
      rfl
    · rintro σ H3 ⟨y, rfl, rfl⟩
      have ez : (tl D).take D.cps.size = tl D := List.take_of_length_le (by rw [← len_tl]; exact Nat.le_refl _)
      rw [ez]
      have kk2 := kk H3 s1
      rw [e0] at kk2
      refine ⟨_, rfl, _, rfl, rfl, _, rfl, ?_⟩
      by_cases hx : D = x
      · rw [if_pos (by rw [hx])] at kk2
        exact ifT (by rw [str_ne]; exact decide_eq_true hx) ⟨_, rfl, kk2⟩
      · rw [if_neg (fun z => hx (ext_tl z))] at kk2
        exact ifF (by rw [str_ne]; exact decide_eq_false hx) ⟨_, rfl, _, rfl, kk2⟩
end
end Cc

/-! Generators that a comprehension drains: its list S grows, its own names (at C) change while the generator sleeps; a for with a yield. -/
namespace Cc
open PySem PySem.Spec PyProof.Rows L2 GenW
/-- names stand in such an object at C -/
def LocO (C : Addr) (o : Obj) : Prop := (∃ m, ∀ h : Heap, h.get? C = some o → h.Ns C m) ∧ ∀ v, o.data ≠ .cell v
/-- what the consumer does between two items -/
structure Nap (S C : Addr) (v : Value) (s s' : Shared) : Prop where
  os : s'.os = s.os
  bare : AllBare s'.gens
  keep : ∀ b o, b ≠ S → b ≠ C → s.heap.get? b = some o → s'.heap.get? b = some o
  grow : ∀ vs n, s.heap.get? S = some (lstObj vs n) → ∃ n', s'.heap.get? S = some (lstObj (vs.push v) n')
  loc : ∃ o, LocO C o ∧ s'.heap.get? C = some o
def Run (X : Cx) (S C : Addr) (ip : List (Addr × Obj)) (ys : List V) (σ : L2.St) (H : Hp) (s : Shared) : Prop := ∃ o, LocO C o ∧ GI X S ((C, o) :: ip) ys σ H s
/-- apart from the generator's own, though it may be older -/
def Near (X : Cx) (b : Addr) : Prop := (b ∈ X.ex ∨ X.s_0.heap.objs.size ≤ b) ∧ b ≠ X.env.locals ∧ ∀ y c, X.env.cells.lookup y = some c → c ≠ b
/-- the two lie apart from the generator's own -/
structure Far (X : Cx) (S C : Addr) (ip : List (Addr × Obj)) : Prop where
  ne : S ≠ C
  aS : Near X S
  aC : Near X C
  pS : ∀ p ∈ X.pn ++ ip, p.1 ≠ S
  pC : ∀ p ∈ X.pn ++ ip, p.1 ≠ C
theorem Run.woken {X : Cx} {S C : Addr} {ip : List (Addr × Obj)} {ys : List V} {x : V} {v : Value} {σ : L2.St} {H : Hp} {s s' : Shared} (F : Far X S C ip) (h : Run X S C ip ys σ H s) (rv : RelV x v) (z : Nap S C v s s') : Run X S C ip (ys ++ [x]) σ H s' := by
  obtain ⟨o, ho, acc, c, r, I⟩ := h
  obtain ⟨eS, nS, lS, fS, _⟩ := I.pin (S, lstObj acc c) (List.mem_append_right _ List.mem_cons_self)
  obtain ⟨eC, nC, lC, fC, _⟩ := I.pin (C, o) (List.mem_append_right _ (List.mem_cons_of_mem _ List.mem_cons_self))
  have I0 : Inv X ip σ H s := I.pins_of fun p hp => I.pin p (List.mem_append_right _ (List.mem_cons_of_mem _ (List.mem_cons_of_mem _ hp)))
  obtain ⟨z1, z2, z3, z4, o', ho', eC'⟩ := z
  obtain ⟨cS, eS'⟩ := z4 acc c eS
  obtain ⟨hq, gq, dq, tq, os⟩ := s'
  cases (show os = s.os from z1)
  have far : ∀ b, b ∉ [S, C] → b ≠ S ∧ b ≠ C := fun b hb => ⟨fun e => hb (by rw [e]; exact List.mem_cons_self), fun e => hb (by rw [e]; exact List.mem_cons_of_mem _ List.mem_cons_self)⟩
  have old : ∀ b ob, b ∉ [S, C] → s.heap.get? b = some ob → hq.get? b = some ob := fun b ob hb q => z3 b ob (far b hb).1 (far b hb).2 q
  have tr : ∀ b u, H b = some u → b ≠ S ∧ b ≠ C := fun b u q => ⟨fun e => (by rw [e, nS] at q; cases q), fun e => (by rw [e, nC] at q; cases q)⟩
  have J : Inv X ip σ H { s with heap := hq, gens := gq, drawn := dq, toks := tq } := by
    refine I0.step (g' := gq) (t' := tq) (d' := dq) (ch := [S, C]) (fun b hb => ?_) (fun b ob _ _ hc q _ => old b ob hc q) (fun b ob _ _ hc q _ => ⟨ob.slots, old b ob hc q⟩) (fun _ _ _ _ n => n)
      (fun b ob hc q => ⟨ob, old b ob hc q⟩) (fun _ _ q => q) (fun _ _ _ q => q) (fun b ps q => ⟨#[], by rw [q]; simp⟩) (fun m hm => ?_) (fun b u q => ?_) z2
    · rcases List.mem_cons.mp hb with e | e
      · rw [e]
        exact ⟨F.aS.1, F.aS.2.1, F.aS.2.2, F.pS⟩
      · have e2 := List.mem_singleton.mp e
        rw [e2]
        exact ⟨F.aC.1, F.aC.2.1, F.aC.2.2, F.pC⟩
    · obtain ⟨ob, es, ep, hob, rest⟩ := hm
      exact ⟨ob, es, ep, z3 _ ob (Ne.symm lS) (Ne.symm lC) hob, rest⟩
    · refine (I0.hok b u q).stay (fun e w hc y => ?_) (fun _ y => y) fun _ _ y => y
      have ne : e ≠ S ∧ e ≠ C := by
        rcases hc with y | y
        · rw [y]
          exact tr b u q
        · exact tr e _ y
      exact z3 e w ne.1 ne.2 y
  refine ⟨o', ho', acc.push v, cS, ?_, J.pins_of fun p hp => ?_⟩
  · rw [Array.toList_push]
    exact r.append (.cons rv (.nil))
  · rcases List.mem_cons.mp hp with e | hp
    · rw [e]
      exact ⟨eS', nS, lS, fS, fun v q => by cases q⟩
    · rcases List.mem_cons.mp hp with e | hp
      · rw [e]
        exact ⟨eC', nC, lC, fC, ho'.2⟩
      · exact J.pin p (List.mem_append.mpr (.inr hp))
/-! ### the protocol -/
def YP (X : Cx) (S C : Addr) : Protocol := fun n s₀ v s kap => ∃ ys x ip σ H, n + 1 + ys.length = sizeLine ∧ RelV x v ∧ Run X S C ip ys σ H s ∧ ∀ s', Nap S C v s s' → kap (.send .none) s'
def RP (X : Cx) (S C : Addr) (Q : List V → VK) (F : Value → Shared → Prop) : GenEnd := fun n s₀ r s => match r with
  | .ok (.ret u) => ∃ ys v ip σ H, n + ys.length = sizeLine ∧ Run X S C ip ys σ H s ∧ RelV v u ∧ Q ys v H
  | .ok _ => False
  | .error e => F e s
def FlowP (X : Cx) (S C : Addr) (ip : List (Addr × Obj)) (D : GEnds) (ys : List V) (f : Flow) (s : Shared) : Prop :=
  match f with
  | .next => ∃ σ H, Run X S C ip ys σ H s ∧ D.nx ys σ H
  | .brk => ∃ σ H, Run X S C ip ys σ H s ∧ D.bk ys σ H
  | .cont => ∃ σ H, Run X S C ip ys σ H s ∧ D.ct ys σ H
  | .ret u => ∃ v σ H, Run X S C ip ys σ H s ∧ RelV v u ∧ D.rt ys v H
structure Here (X : Cx) (S C : Addr) (ip : List (Addr × Obj)) (A : Around) (c : Code) (fs : List Frame) (gd : Bool → Bool) : Prop where
  far : Far X S C ip
  over : A.over c fs = X.A
  split : splitAtGen fs = none
  bare : fs.any Frame.guarded = false
  gd : gd false = false
structure Then (X : Cx) (S C : Addr) (ip : List (Addr × Obj)) (A : Around) (R : GenEnd) (c : Code) (fs : List Frame) (K : Flow → Sem PySem.Fin) (J : Value → Sem PySem.Fin) (D : GEnds) : Prop where
  ok : ∀ (n : Nat) (ys : List V) (s₀ s : Shared) (f : Flow), n + ys.length = sizeLine → FlowP X S C ip D ys f s → Seg (model X.prog X.w) A R (YP X S C) n s₀ c (K f) fs s
  exc : ∀ (n : Nat) (s₀ : Shared) (e : Value) (s : Shared), X.xe e s → Seg (model X.prog X.w) A R (YP X S C) n s₀ c (J e) fs s
/-- a tree of the body, wrapped, runs so -/
def Goes (X : Cx) (T : Sem Flow) (t : TGn) : Prop :=
  ∀ (A : Around) (S C : Addr) (ip : List (Addr × Obj)) (R : GenEnd) (n : Nat) (ys : List V) (s₀ : Shared) (c : Code) (fs : List Frame) (K : Flow → Sem PySem.Fin) (J : Value → Sem PySem.Fin) (gd : Bool → Bool) (lv : List Value → List Value) (s : Shared) (σ : L2.St) (H : Hp) (D : GEnds),
    Here X S C ip A c fs gd → n + ys.length = sizeLine → Then X S C ip A R c fs K J D → Run X S C ip ys σ H s → t D ys σ H → Seg (model X.prog X.w) A R (YP X S C) n s₀ c (T.wrap K J gd lv) fs s
section
variable {st : Stmt} {rest : List Stmt} {X : Cx}
theorem flow_of {S C : Addr} {acc : Array Value} {c : Nat} {o : Obj} {ip : List (Addr × Obj)} {s : Shared} {D : GEnds} {ys : List V} {f : Flow} (ho : LocO C o) (r : Vals ys acc.toList) (h : SP X ((S, lstObj acc c) :: (C, o) :: ip) (D.at ys) f s) : FlowP X S C ip D ys f s := by
  cases f with
  | ret u =>
    obtain ⟨v, σ, H, I, r1, q⟩ := h
    exact ⟨v, σ, H, ⟨o, ho, acc, c, r, I⟩, r1, q⟩
  | next =>
    obtain ⟨σ, H, I, q⟩ := h
    exact ⟨σ, H, ⟨o, ho, acc, c, r, I⟩, q⟩
  | brk =>
    obtain ⟨σ, H, I, q⟩ := h
    exact ⟨σ, H, ⟨o, ho, acc, c, r, I⟩, q⟩
  | cont =>
    obtain ⟨σ, H, I, q⟩ := h
    exact ⟨σ, H, ⟨o, ho, acc, c, r, I⟩, q⟩
theorem gb_plain {t : TS} (h : PS X st t) : Goes X (exec st X.env) (tPlain t) := by
  intro A S C ip R n ys s₀ c fs K J gd lv s σ H D g hn k hI ht
  obtain ⟨o, ho, acc, cc, r, I⟩ := hI
  refine seg_wrap ?_
  rw [g.over]
  exact wpAny_mono (h.run _ s σ H (D.at ys) I ht) (fun f s' q => k.ok n ys s₀ s' f hn (flow_of ho r q)) fun x s' q => k.exc n s₀ x s' q
theorem gb_nil : Goes X (execs [] X.env) tG0 := by
  intro A S C ip R n ys s₀ c fs K J gd lv s σ H D g hn k hI ht
  refine seg_execs_nil ?_
  exact k.ok n ys s₀ s .next hn ⟨σ, H, hI, ht⟩
theorem gb_cons {t u : TGn} (a : Goes X (exec st X.env) t) (b : Goes X (execs rest X.env) u) : Goes X (execs (st :: rest) X.env) (tGThen t u) := by
  intro A S C ip R n ys s₀ c fs K J gd lv s σ H D g hn k hI ht
  refine seg_execs_cons (a A S C ip R n ys s₀ c fs _ J gd lv s σ H { D with nx := fun ys' σ' H' => u D ys' σ' H' } g hn ⟨fun n' ys' s₀' s' f hn' q => ?_, k.exc⟩ hI ht)
  cases f with
  | next =>
    obtain ⟨σ', H', I', q⟩ := q
    exact b A S C ip R n' ys' s₀' c fs K J gd lv s' σ' H' D g hn' k I' q
  | ret u => exact k.ok n' ys' s₀' s' (.ret u) hn' q
  | brk => exact k.ok n' ys' s₀' s' .brk hn' q
  | cont => exact k.ok n' ys' s₀' s' .cont hn' q
theorem gb_yield {e : Expr} {yp pos : Pos} {te : TE} (he : PE X e te) (hco : X.env.scope.isCoroutine = false := by rfl) (hi : interactive X.env = false := by rfl) : Goes X (exec (.Expr (.Yield (some e) yp) pos) X.env) (tGYield te) := by
  intro A S C ip R n ys s₀ c fs K J gd lv s σ H D g hn k hI ht
  obtain ⟨room, ht⟩ := ht
  obtain ⟨n, rfl⟩ : ∃ j, n = j + 1 := ⟨n - 1, by omega⟩
  obtain ⟨o, ho, acc, cc, r, I⟩ := hI
  refine seg_Expr_Yield g.split g.gd g.bare ?_ hco hi
  rw [g.over]
  refine wpAny_mono (he.run _ s σ H _ I ht) (fun v s' hv => ?_) fun x s' q => k.exc _ s₀ x s' q
  obtain ⟨y, H1, I1, rv, q⟩ := hv
  have G1 : Run X S C ip ys σ H1 s' := ⟨o, ho, acc, cc, r, I1⟩
  refine fun kap hk => ⟨ys, y, ip, σ, H1, hn, rv, G1, fun s2 z => hk .none s2 (k.ok n (ys ++ [y]) s2 s2 .next ?_ ⟨σ, H1, G1.woken g.far rv z, q⟩)⟩
  rw [List.length_append]
  show n + (ys.length + 1) = _
  omega
end
/-! ### a for amid -/
section
variable {prog : Program} {w : World} {A : Around} {R : GenEnd} {Y : Protocol} {n : Nat} {s₀ s : Shared} {fs : List Frame} {env : Env} {tg : Expr} {it : Value} {body : List Stmt}
/-- an exception out of the loop's code -/
abbrev outX (env : Env) (e : Value) : Sem PySem.Fin := (do noteFrame e env; theTreesLotGoes e : Sem Unit).wrap (fun _ => .raise e) .raise id id
theorem seg_turn (h : wpAny (model prog w) (A.over (.forLoop tg it body [] env) fs) (pyNext it) (fun r s1 => match r with
      | none => Seg (model prog w) A R Y n s₀ (.block [] env) ((model prog w).den (.block [] env)) fs s1
      | some v => wpAny (model prog w) (A.over (.forLoop tg it body [] env) fs) (letOwnedTupleGo tg it v) (fun _ s2 => wpAny (model prog w) (A.over (.forLoop tg it body [] env) fs) (assign tg env v) (fun _ s3 =>
          Seg (model prog w) A R Y n s₀ (.forLoop tg it body [] env) ((execs body env).wrap (fun f => match f with
            | .next | .cont => .pure (.again (.forLoop tg it body [] env))
            | .brk => .pure (.done .next)
            | .ret v => .pure (.done (.ret v))) (outX env) id id) fs s3)
          (fun x s' => Seg (model prog w) A R Y n s₀ (.forLoop tg it body [] env) (outX env x) fs s') s2)
          (fun x s' => Seg (model prog w) A R Y n s₀ (.forLoop tg it body [] env) (outX env x) fs s') s1)
      (fun x s' => Seg (model prog w) A R Y n s₀ (.forLoop tg it body [] env) (outX env x) fs s') s) :
    Seg (model prog w) A R Y n s₀ (.forLoop tg it body [] env) ((model prog w).den (.forLoop tg it body [] env)) fs s := by
  show Seg _ A R Y n s₀ _ ((forTurn tg it body [] env).onRaise (fun x => do noteFrame x env; theTreesLotGoes x)) fs s
  have ex : ∀ (x : Value) (s' : Shared), Seg (model prog w) A R Y n s₀ (.forLoop tg it body [] env) (outX env x) fs s' → Seg (model prog w) A R Y n s₀ (.forLoop tg it body [] env) ((do noteFrame x env; theTreesLotGoes x : Sem Unit).bind fun _ => .raise x) fs s' := fun x s' q => by
    rw [Sem.bind_eq_wrap]
    exact q
  rw [Sem.onRaise_eq_wrap]
  unfold forTurn
  refine seg_bind_wrap (wpAny_standAt (seg_bind_wrap (wpAny_onRaise (wpAny_mono h (fun r s1 h1 => ?_) fun x s' q => wpAny_standAt (ex x s' q)))))
  cases r with
  | none => exact seg_again rfl h1
  | some v =>
    refine seg_bind_wrap (wpAny_mono h1 (fun _ s2 h2 => ?_) fun x s' q => ex x s' q)
    refine seg_bind_wrap (wpAny_mono h2 (fun _ s3 h3 => ?_) fun x s' q => ex x s' q)
    rw [Sem.bind_eq_wrap', Sem.wrap_wrap]
    exact Eq.mpr (congrArg (fun t => Seg (model prog w) A R Y n s₀ (.forLoop tg it body [] env) t fs s3) (Sem.wrap_congr (execs body env) id id (fun f => by cases f <;> rfl) fun e => Sem.bind_eq_wrap _ _)) h3
end
section
variable {X : Cx}
theorem here_in {S C : Addr} {ip : List (Addr × Obj)} {A : Around} {c c' : Code} {fs : List Frame} {gd : Bool → Bool} {k : Result → Sem PySem.Fin} {l kp : List Value} {p : Pos} (g : Here X S C ip A c fs gd) (hw : c'.weight = 0) (hu : c'.cUnits = 0) {ip' : List (Addr × Obj)} (hf : Far X S C ip') :
    Here X S C ip' A c' (.ret k none (gd false) l c p kp :: fs) id := by
  refine ⟨hf, (over_loop hw hu).trans g.over, ?_, ?_, rfl⟩
  · change (splitAtGen fs).map _ = none
    rw [g.split]
    rfl
  · change (gd false || fs.any Frame.guarded) = false
    rw [g.gd, g.bare]
    rfl
theorem seg_back {S C : Addr} {ip : List (Addr × Obj)} {A : Around} {R : GenEnd} {c : Code} {fs : List Frame} {K : Flow → Sem PySem.Fin} {J : Value → Sem PySem.Fin} {gd : Bool → Bool} {lv : List Value → List Value} {D : GEnds} {n : Nat} {s₀ s : Shared} {e : Value}
    (g : Here X S C ip A c fs gd) (k : Then X S C ip A R c fs K J D) (h : cameBackBy (model X.prog X.w) X.A X.env X.xe e s) :
    Seg (model X.prog X.w) A R (YP X S C) n s₀ c (((Sem.raise e : Sem Flow).onRaise (cameBack X.env)).wrap K J gd lv) fs s := by
  show Seg _ _ _ _ n s₀ c (((cameBack X.env e).bind fun _ => (Sem.raise e : Sem Flow)).wrap K J gd lv) fs s
  rw [Sem.bind_eq_wrap (cameBack X.env e), Sem.wrap_wrap]
  refine seg_wrap ?_
  rw [g.over]
  refine wpAny_mono h (fun _ s2 q => ?_) fun x s2 q => k.exc n s₀ x s2 q
  exact k.exc n s₀ e s2 q
def tGFor (wi : TI) (g : TG) (tb : TGn) : TGn := fun D ys σ H => wi σ H fun J H1 => ∃ W : Nat → Nat → List V → L2.St → Hp → Prop, (∃ m, W 0 m ys σ H1) ∧ ∀ i m ys σ H, W i m ys σ H →
  (J.stop i H ∧ D.nx ys σ H) ∨ (J.go i H ∧ ∃ N : List V → L2.St → Hp → Prop, (∀ ys' σ' H', N ys' σ' H' → ∃ m', m' < m ∧ W (i + 1) m' ys' σ' H') ∧ ∀ x H', J.yld i H x H' → g x σ H' fun σ2 H2 => tb { D with nx := N, ct := N, bk := D.nx } ys σ2 H2)
theorem Run.unpin {S C : Addr} {ip : List (Addr × Obj)} {fp : List Addr} {h : Heap} {ys : List V} {σ : L2.St} {H : Hp} {s : Shared} (q : Run X S C (ip ++ pinsAt fp h) ys σ H s) : Run X S C ip ys σ H s :=
  let ⟨o, ho, acc, c, r, I⟩ := q
  ⟨o, ho, acc, c, r, (show Inv X (((S, lstObj acc c) :: (C, o) :: ip) ++ pinsAt fp h) σ H s from I).unpinned⟩
theorem gb_for {tg iter : Expr} {body : List Stmt} {wi : TI} {g : TG} {tb : TGn} {pos : Pos} (hp : PassesOwn (model X.prog X.w) X.A X.env X.xe) (hc : X.calm = true) (hi : PI X tg iter wi) (hg : PG X tg g) (hb : Goes X (execs body X.env) tb)
    (hs : ∀ x, foldedSetIterable iter X.env x = pure x := by intro _; rfl) : Goes X (exec (.For tg iter body [] pos) X.env) (tGFor wi g tb) := by
  intro A S C ip R n ys s₀ c fs K J gd lv s σ H D gh hn k hI ht
  obtain ⟨o, ho, acc, cc, r, I⟩ := hI
  rw [exec_For]
  refine seg_bind_wrap (wpAny_standAt (seg_bind_wrap ?_))
  rw [gh.over]
  refine wpAny_mono (hi.run _ s σ H _ I ht) (fun v s1 h1 => ?_) fun x s' q => k.exc n s₀ x s' q
  refine seg_bind_wrap (wpAny_of_eq (hs v) (seg_bind_wrap (wpAny_standAt (seg_bind_wrap (wpAny_holding ?_)))))
  rw [gh.over]
  refine wpAny_mono h1 (fun itv s2 h2 => ?_) fun x s' q => k.exc n s₀ x s' q
  obtain ⟨it, fp, tn, Jt, H2, e, I2, T, st2, f2, W, ⟨m0, w0⟩, turn⟩ := h2
  subst e
  refine seg_call fun p => ?_
  -- where the iterator's own objects lie
  have apart : ∀ b ∈ fp, (b ≠ X.env.locals ∧ b ∉ X.fs ∧ (b ∈ X.ex ∨ X.s_0.heap.objs.size ≤ b) ∧ ∀ x c, X.env.cells.lookup x = some c → c ≠ b) ∧ S ≠ b ∧ C ≠ b ∧ ∀ q ∈ X.pn ++ ip, q.1 ≠ b := fun b hb => by
    obtain ⟨_, z1, z2, z3, z4, z5⟩ := f2 b hb
    refine ⟨⟨z1, z2, z3, z4⟩, z5 (S, lstObj acc cc) (List.mem_append_right _ List.mem_cons_self), z5 (C, o) (List.mem_append_right _ (List.mem_cons_of_mem _ List.mem_cons_self)), fun q hq => ?_⟩
    rcases List.mem_append.mp hq with y | y
    · exact z5 q (List.mem_append_left _ y)
    · exact z5 q (List.mem_append_right _ (List.mem_cons_of_mem _ (List.mem_cons_of_mem _ y)))
  have stat : ∀ {acc' : Array Value} {c' : Nat} {o' : Obj} {H' : Hp}, (∀ b ∈ fp, H' b = none) → ∀ b ∈ fp, FpOk X ((S, lstObj acc' c') :: (C, o') :: ip) H' b := fun {acc' c' o' H'} hn b hb => by
    obtain ⟨⟨z1, z2, z3, z4⟩, z5, z6, z7⟩ := apart b hb
    refine ⟨hn b hb, z1, z2, z3, z4, fun q hq => ?_⟩
    rcases List.mem_append.mp hq with y | y
    · exact z7 q (List.mem_append_left _ y)
    · rcases List.mem_cons.mp y with y | y
      · rw [y]
        exact z5
      · rcases List.mem_cons.mp y with y | y
        · rw [y]
          exact z6
        · exact z7 q (List.mem_append_right _ y)
  have farP : ∀ h : Heap, Far X S C (ip ++ pinsAt fp h) := fun h => by
    have ofP : ∀ q ∈ X.pn ++ (ip ++ pinsAt fp h), q ∈ X.pn ++ ip ∨ q.1 ∈ fp := fun q hq => by
      rcases List.mem_append.mp hq with y | y
      · exact .inl (List.mem_append_left _ y)
      · rcases List.mem_append.mp y with y | y
        · exact .inl (List.mem_append_right _ y)
        · refine .inr ?_
          unfold pinsAt at y
          obtain ⟨b, hb, eb⟩ := List.mem_filterMap.mp y
          cases eo : h.get? b with
          | none =>
            rw [eo] at eb
            cases eb
          | some ob =>
            rw [eo] at eb
            cases eb
            exact hb
    exact ⟨gh.far.ne, gh.far.aS, gh.far.aC, fun q hq => (ofP q hq).elim (gh.far.pS q) fun y => (apart q.1 y).2.1.symm, fun q hq => (ofP q hq).elim (gh.far.pC q) fun y => (apart q.1 y).2.2.1.symm⟩
  have hl := fun (kk : Result → Sem PySem.Fin) (ip' : List (Addr × Obj)) (hf : Far X S C ip') => here_in (k := kk) (c' := .forLoop tg (.ref it) body [] X.env) (l := lv []) (kp := []) (p := p) gh rfl rfl hf
  have loop : ∀ (m n i : Nat) (ys : List V) (s₀ s : Shared) (σ : L2.St) (H : Hp), n + ys.length = sizeLine → W i m ys σ H → Run X S C ip ys σ H s → tn i s.heap → (∀ b ∈ fp, H b = none) →
      Seg (model X.prog X.w) A R (YP X S C) n s₀ (.forLoop tg (.ref it) body [] X.env) ((model X.prog X.w).den (.forLoop tg (.ref it) body [] X.env))
        (.ret (fun z => ((match z with | .ok f => (.pure f : Sem Flow) | .error e => .raise e).onRaise (cameBack X.env)).wrap K J gd lv) none (gd false) (lv []) c p [] :: fs) s := by
    intro m
    refine Nat.strongRecOn m fun m ih => ?_
    · intro n i ys s₀ s σ H hn w ⟨o, ho, acc, cc, r, I⟩ st fr
      have ee : ∀ (n : Nat) (s₀ : Shared) (x : Value) (s' : Shared), X.xe x s' → Seg (model X.prog X.w) A R (YP X S C) n s₀ (.forLoop tg (.ref it) body [] X.env) (outX X.env x)
          (.ret (fun z => ((match z with | .ok f => (.pure f : Sem Flow) | .error e => .raise e).onRaise (cameBack X.env)).wrap K J gd lv) none (gd false) (lv []) c p [] :: fs) s' := fun n s₀ x s' hx => by
        refine seg_wrap ?_
        rw [(hl _ ip gh.far).over]
        refine wpAny_bind (wpAny_mono (hp x s' hx) (fun _ s2 q => wpAny_theTreesLotGoes ?_) fun y s2 q => ?_)
        · exact seg_leaf (.error x) (seg_back gh k q)
        · exact seg_leaf (.error y) (seg_back gh k q)
      refine seg_turn ?_
      rw [(hl _ ip gh.far).over]
      rcases turn i m ys σ H w with ⟨halt, q⟩ | ⟨go, N, hN, step⟩
      · refine wpAny_mono (T.done X rfl rfl rfl hc i _ s σ H X.xe I (stat fr) st halt) (fun z s4 ⟨hz, I4⟩ => ?_) fun x s' q => ee n s₀ x s' q
        subst hz
        exact seg_leaf (.ok .next) (k.ok n ys s₀ s4 .next hn ⟨σ, H, ⟨o, ho, acc, cc, r, I4⟩, q⟩)
      · refine wpAny_mono (T.item X rfl rfl rfl hc i _ s σ H X.xe I (stat fr) st go) (fun z s4 ⟨u, hz, h4⟩ => ?_) fun x s' q => ee n s₀ x s' q
        subst hz
        refine wpAny_mono h4 (fun _ s5 ⟨x, H5, I5, r5, y5, st5, fr5⟩ => ?_) fun x s' q => ee n s₀ x s' q
        refine wpAny_mono (hg.run _ s5 σ H5 x u _ (I5.pinned (stat fr5) (T.obj _ _ st5)) r5 (step x H5 y5)) (fun _ s6 ⟨σ6, H6, I6, q6⟩ => ?_) fun x s' q => ee n s₀ x s' q
        have next : ∀ {n' : Nat} {ys' : List V} {s₀' s7 : Shared}, n' + ys'.length = sizeLine → (∃ σ' H', Run X S C (ip ++ pinsAt fp s5.heap) ys' σ' H' s7 ∧ N ys' σ' H') →
            Seg (model X.prog X.w) A R (YP X S C) n' s₀' (.forLoop tg (.ref it) body [] X.env) (.pure (.again (.forLoop tg (.ref it) body [] X.env)))
              (.ret (fun z => ((match z with | .ok f => (.pure f : Sem Flow) | .error e => .raise e).onRaise (cameBack X.env)).wrap K J gd lv) none (gd false) (lv []) c p [] :: fs) s7 := fun {n' ys' s₀' s7} hn' ⟨σ7, H7, R7, n7⟩ => by
          obtain ⟨m', hm, w7⟩ := hN ys' σ7 H7 n7
          have pin7 : ∀ b ∈ fp, ∀ ob, s5.heap.get? b = some ob → s7.heap.get? b = some ob ∧ H7 b = none := fun b hb ob e => by
            obtain ⟨o7, ho7, acc7, c7, r7, I7⟩ := R7
            have z := I7.pin (b, ob) (List.mem_append_right _ (List.mem_cons_of_mem _ (List.mem_cons_of_mem _ (List.mem_append_right _ (mem_pinsAt hb e)))))
            exact ⟨z.1, z.2.1⟩
          refine seg_again rfl (ih m' hm n' (i + 1) ys' s₀' s7 σ7 H7 hn' w7 R7.unpin (T.keep _ _ _ st5 fun b hb ob e => (pin7 b hb ob e).1) fun b hb => ?_)
          obtain ⟨ob, e, _⟩ := T.obj _ _ st5 b hb
          exact (pin7 b hb ob e).2
        refine hb A S C (ip ++ pinsAt fp s5.heap) R n ys s₀ _ _ _ _ id id s6 σ6 H6 { D with nx := N, ct := N, bk := D.nx } (hl _ _ (farP s5.heap)) hn ⟨fun n' ys' s₀' s7 f hn' q => ?_, fun n' s₀' x s7 q => ee n' s₀' x s7 q⟩ ⟨o, ho, acc, cc, r, I6⟩ q6
        cases f with
        | next => exact next hn' q
        | cont => exact next hn' q
        | brk =>
          obtain ⟨σ7, H7, R7, q⟩ := q
          exact seg_leaf (.ok .next) (k.ok n' ys' s₀' s7 .next hn' ⟨σ7, H7, R7.unpin, q⟩)
        | ret u =>
          obtain ⟨v7, σ7, H7, R7, r7, q⟩ := q
          exact seg_leaf (.ok (.ret u)) (k.ok n' ys' s₀' s7 (.ret u) hn' ⟨v7, σ7, H7, R7.unpin, r7, q⟩)
  exact loop m0 n 0 ys s₀ s2 σ H2 hn w0 ⟨o, ho, acc, cc, r, I2⟩ st2 fun b hb => (f2 b hb).1
end
end Cc

/-! A generator def that raises nothing, drained by a comprehension [x for x in f(..)]. -/
namespace Cc
open PySem PySem.Spec PyProof.Rows L2 GenW
/-- no exception is promised -/
abbrev noE : XK := fun _ _ _ => False
/-- arguments, the heap, what is wanted of all items and the heap at the end -/
abbrev SpY := List V → Hp → (List V → Hp → Prop) → Prop
def StopY (P : Program) (w : World) (outer : List Env) (H : Hp) (s : Shared) (S C : Addr) (Q : List V → Hp → Prop) (s1 : Shared) : Prop :=
  ∃ H' ys acc c oC, s1.os = s.os ∧ AllBare s1.gens ∧ Un (frs outer) [] H H' s.heap s1.heap ∧ HOk P w H' s1.heap ∧ (H' S = none ∧ s1.heap.get? S = some (lstObj acc c)) ∧ (Vals ys acc.toList ∧ ys.length ≤ sizeLine) ∧ (H' C = none ∧ LocO C oC ∧ s1.heap.get? C = some oC) ∧ Q ys H'
def EndY (P : Program) (w : World) (outer : List Env) (H : Hp) (s : Shared) (S C a : Addr) (g : Nat) (Q : List V → Hp → Prop) : GenEnd := fun n s₀ r s1 =>
  ((r = .ok (.ret .none) ∨ r = .ok .next) ∧ StopY P w outer H s S C Q s1) ∨ ∃ e, r = .error e ∧ False
def ItemY (s : Shared) (S C a : Addr) (g : Nat) : Protocol := fun n s₀ v s1 kap =>
  s1.os = s.os ∧ AllBare s1.gens ∧ s1.heap.NoLimit ∧ s1.heap.IsGen a g ∧ (∃ (acc : Array Value) (c : Nat), s1.heap.get? S = some (lstObj acc c) ∧ n + 1 + acc.size = sizeLine) ∧ (∃ oC, LocO C oC ∧ s1.heap.get? C = some oC) ∧ ∀ s', Nap S C v s1 s' → kap (.send .none) s'
/-- a generator that has not begun -/
def MadeY (P : Program) (w : World) (k : Nat) (outer : List Env) (H : Hp) (s : Shared) (Q : List V → Hp → Prop) (u : Value) (s' : Shared) : Prop :=
  ∃ (a : Addr) (g : Nat) (c : Code), u = .ref a ∧ (s.heap.objs.size ≤ a ∧ a < s'.heap.objs.size) ∧ s'.heap.IsGen a g ∧ s'.gens[g]? = some (.fresh c) ∧ s'.os = s.os ∧ AllBare s'.gens ∧ s'.heap.NoLimit ∧ (∀ b o, s.heap.get? b = some o → s'.heap.get? b = some o) ∧
    ∀ (A : Around) (S C : Addr) (s2 : Shared), Room k A → A.frames = some outer → s'.heap.objs.size ≤ S → s'.heap.objs.size ≤ C → S ≠ C → (∀ b o, s'.heap.get? b = some o → s2.heap.get? b = some o) → (∃ c, s2.heap.get? S = some (lstObj #[] c)) → (∃ o, LocO C o ∧ s2.heap.get? C = some o) → s2.os = s.os → AllBare s2.gens →
      Seg (model P w) A (EndY P w outer H s S C a g Q) (ItemY s S C a g) sizeLine s2 c ((model P w).den c) [] s2
structure GenY (P : Program) (w : World) (K : PySem.W.Frag) (mg : Str → Option Value) (base : Heap) (k : Nat) (f : Addr) (fd : FuncData) (ps : List Str) (sp : SpY) : Prop where
  len : ∀ vs H Q, sp vs H Q → vs.length = ps.length
  run : ∀ (A : Around) (outer : List Env) (s : Shared) (H : Hp) (args : Args) (us : List Value) (vs : List V) (Q : List V → Hp → Prop), Room k A → Env0 P w K mg base A outer s H → BindsTo s fd args (ps.zip us) → Vals vs us → sp vs H Q →
    codeAny (model P w) A (.call (.ref f) args) (fun r s' => match r with | .ok (.ret u) => MadeY P w k outer H s Q u s' | _ => False) s
theorem geny_of {P : Program} {w : World} {K : PySem.W.Frag} {mg : Str → Option Value} {base : Heap} {k : Nat} {f : Addr} {name qual : Str} {params : Arguments} {body : List Stmt} {scope : Scope} {dV kV doc pm cdv ct oc : Value} {an od : Option Addr}
    {osl : Array (Option Value)} {N ps : List Str} {sp : SpY} (lk : K.lookup f = some ⟨oc, od, .func (PySem.W.fnOf name qual params body scope dV kV doc pm an cdv ct), osl⟩) (hcd : PySem.W.codeIn K cdv qual = true) (G : GScope N ps scope) (len : ∀ vs H Q, sp vs H Q → vs.length = ps.length)
    (hbody : ∀ (A : Around) (outer : List Env) (s : Shared) (H : Hp) (vs : List V) (Q : List V → Hp → Prop) (pn : List (Addr × Obj)), Room k (A.deeper (envOfC qual scope s.heap.objs.size f cdv)) → sp vs H Q →
      ∃ t, Goes (gcxOf P w K mg base N qual scope f cdv A outer s H noE pn) (execs body (gcxOf P w K mg base N qual scope f cdv A outer s H noE pn).env) t ∧ t { nx := fun ys _ H' => Q ys H', rt := fun ys v H' => v = .non ∧ Q ys H' } [] (start N vs) H) :
    GenY P w K mg base (k + 1) f (PySem.W.fnOf name qual params body scope dV kV doc pm an cdv ct) ps sp := by
  refine ⟨len, fun A outer s H args us vs Q hr e0 hb r hsp => ?_⟩
  have hl := len _ _ _ hsp
  have inK : K.In s.heap := e0.mod.kin.keeps fun b o e => (e0.bs b o e).1
  have nolim : s.heap.NoLimit := e0.mod.nolimit.keeps fun b o e => (e0.bs b o e).1
  refine codeAny_call_generator hr.depth (inK _ _ lk) rfl G.co G.gen rfl (PySem.W.codeRec_of inK hcd) (hb _ _ _ _ ?_)
  refine wpAny_newFunctionEnv_cells G.kind (fun ⟨y, v⟩ hy => (G.par y (List.of_mem_zip hy).1).imp id fun q => ⟨q, PySem.W.cellsFrom_some _ _ _ (.inl q)⟩) fun env he s1 x => ?_
  subst he
  have nolim1 : s1.heap.NoLimit := nolim.keeps x.toInCall.keep
  refine ⟨nolim1, ?_⟩
  obtain ⟨h1, tk1, es1, hk1⟩ := x.done
  have osE : s1.os = s.os := by rw [es1]
  have genE : s1.gens = s.gens := by rw [es1]
  have ltE : s.heap.objs.size < s1.heap.objs.size := x.toInCall.ns.lt
  have main : ∀ (gob : Obj) (n1 n2 : Value) (tk2 : Nat), gob.cls = .type "generator" → gob.data = .fields #[.int s1.gens.size 0, n1, n2] → gob.slots = #[] → (∀ h : Heap, (h.push gob).get? h.objs.size = some gob) →
      MadeY P w (k + 1) outer H s Q (.ref s1.heap.objs.size) { s1 with gens := s1.gens.push (.fresh (.func body (envOfC qual scope s.heap.objs.size f cdv))), toks := tk2, heap := s1.heap.push gob } := by
    intro gob n1 n2 tk2 y1 y2 y3 y4
    have isG : ∀ h : Heap, h.get? s1.heap.objs.size = some gob → h.IsGen s1.heap.objs.size s1.gens.size := fun h e => ⟨gob, n1, n2, e, y1, y2, y3⟩
    refine ⟨s1.heap.objs.size, s1.gens.size, _, rfl, ⟨Nat.le_of_lt ltE, ?_⟩, isG _ (y4 _), Array.getElem?_push_size .., osE, ?_, nolim1.keeps fun b o e => Heap.get?_push_of_some _ e, fun b o e => Heap.get?_push_of_some _ (x.toInCall.keep b o e), ?_⟩
    · show s1.heap.objs.size < (s1.heap.push gob).objs.size
      rw [Heap.size_push]
      exact Nat.lt_succ_self _
    · exact AllBare.push (by rw [genE]; exact e0.bare) rfl
    intro Aw S C s2 hrw hfr hS hC hSC old hSo hCo hos hba
    have e2 : Env0 P w K mg base Aw outer s H := ⟨hfr, e0.mod, e0.bs, e0.bsz, e0.funs, e0.frf, e0.hok, e0.bare⟩
    obtain ⟨t, ht, hq⟩ := hbody Aw outer s H vs Q [(s1.heap.objs.size, gob)] (hrw.deeper _) hsp
    have I1 : Inv (gcxOf P w K mg base N qual scope f cdv Aw outer s H noE []) [] (start N vs) H s1 := inv_startG G hrw.hd e2 hl r x
    have old1 : ∀ b o, s1.heap.get? b = some o → s2.heap.get? b = some o := fun b o e => old b o (Heap.get?_push_of_some _ e)
    have I2 : Inv (gcxOf P w K mg base N qual scope f cdv Aw outer s H noE []) [] (start N vs) H s2 :=
      I1.call' (ch := []) (hos.trans osE.symm) (Un.kept old1) (I1.hok.kept old1) hba fun b z => nomatch z
    have above : ∀ b, (s1.heap.push gob).objs.size ≤ b → s1.heap.objs.size < b := fun b hb => by
      rw [Heap.size_push] at hb
      exact hb
    have ltS := above S hS
    have ltC := above C hC
    obtain ⟨cS, eS⟩ := hSo
    obtain ⟨oC, hoC, eC⟩ := hCo
    have young : ∀ b, s1.heap.objs.size ≤ b → H b = none ∧ b ≠ s.heap.objs.size ∧ b ∉ frs outer ∧ s.heap.objs.size ≤ b ∧ ∀ y c, (cellsFrom (s.heap.objs.size + 1) scope.names []).lookup y = some c → c ≠ b := fun b hb =>
      ⟨I1.hok.fresh hb, Nat.ne_of_gt (Nat.lt_of_lt_of_le ltE hb), I1.nofs hb, Nat.le_trans (Nat.le_of_lt ltE) hb, fun y c e z => by
        obtain ⟨v, ox, hox, _⟩ := I1.cell y c e
        have lt := Heap.lt_size hox
        rw [z] at lt
        exact Nat.lt_irrefl _ (Nat.lt_of_lt_of_le lt hb)⟩
    have ap : ∀ b, s1.heap.objs.size < b → Near (gcxOf P w K mg base N qual scope f cdv Aw outer s H noE [(s1.heap.objs.size, gob)]) b := fun b hb =>
      let ⟨_, z2, _, z4, z5⟩ := young b (Nat.le_of_lt hb)
      ⟨.inr z4, z2, z5⟩
    have far : Far (gcxOf P w K mg base N qual scope f cdv Aw outer s H noE [(s1.heap.objs.size, gob)]) S C [] :=
      ⟨hSC, ap S ltS, ap C ltC, fun p hp => by rw [List.mem_singleton.mp hp]; exact Nat.ne_of_lt ltS, fun p hp => by rw [List.mem_singleton.mp hp]; exact Nat.ne_of_lt ltC⟩
    have R0 : Run (gcxOf P w K mg base N qual scope f cdv Aw outer s H noE [(s1.heap.objs.size, gob)]) S C [] [] (start N vs) H s2 := by
      refine ⟨oC, hoC, #[], cS, .nil, Inv.pinnedG I2 fun p hp => ?_⟩
      rcases List.mem_append.mp hp with zl | zr
      · rw [List.mem_singleton.mp zl]
        obtain ⟨z1, z2, z3, _⟩ := young s1.heap.objs.size (Nat.le_refl _)
        exact ⟨old _ _ (y4 _), z1, z2, z3, fun v q => by rw [y2] at q; cases q⟩
      · rcases List.mem_cons.mp zr with zh | zt
        · rw [zh]
          obtain ⟨z1, z2, z3, _⟩ := young S (Nat.le_of_lt ltS)
          exact ⟨eS, z1, z2, z3, fun v q => by cases q⟩
        · rw [List.mem_singleton.mp zt]
          obtain ⟨z1, z2, z3, _⟩ := young C (Nat.le_of_lt ltC)
          exact ⟨eC, z1, z2, z3, hoC.2⟩
    -- what a state of the run tells
    have told : ∀ {ip : List (Addr × Obj)} {ys : List V} {s' : Shared} {σ' : L2.St} {H' : Hp}, Run (gcxOf P w K mg base N qual scope f cdv Aw outer s H noE [(s1.heap.objs.size, gob)]) S C ip ys σ' H' s' →
        s'.os = s.os ∧ AllBare s'.gens ∧ s'.heap.NoLimit ∧ s'.heap.IsGen s1.heap.objs.size s1.gens.size ∧ Un (frs outer) [] H H' s.heap s'.heap ∧ HOk P w H' s'.heap ∧ ∃ acc c o, (H' S = none ∧ s'.heap.get? S = some (lstObj acc c)) ∧ Vals ys acc.toList ∧ (H' C = none ∧ LocO C o ∧ s'.heap.get? C = some o) := fun {ip ys s' σ' H'} ⟨o, ho, acc, c, ra, J⟩ => by
      have zS := J.pin (S, lstObj acc c) (List.mem_append_right _ List.mem_cons_self)
      have zC := J.pin (C, o) (List.mem_append_right _ (List.mem_cons_of_mem _ List.mem_cons_self))
      exact ⟨J.os, J.bare, J.nolimit, isG _ (J.pin (s1.heap.objs.size, gob) (List.mem_append_left _ List.mem_cons_self)).1, J.base, J.hok, acc, c, o, ⟨zS.2.1, zS.1⟩, ra, zC.2.1, ho, zC.1⟩
    refine seg_func (seg_imp (R := RP (gcxOf P w K mg base N qual scope f cdv Aw outer s H noE [(s1.heap.objs.size, gob)]) S C (fun ys v H' => v = .non ∧ Q ys H') fun _ _ => False)
      (Y := YP (gcxOf P w K mg base N qual scope f cdv Aw outer s H noE [(s1.heap.objs.size, gob)]) S C) (fun n s₀ r s3 hR => ?_) (fun n s₀ v s3 kap kap' hkk hY => ?_) sizeLine ?_)
    · cases r with
      | error e => exact hR.elim
      | ok fl =>
        cases fl with
        | next => exact hR.elim
        | brk => exact hR.elim
        | cont => exact hR.elim
        | ret u =>
          obtain ⟨ys, v, ip, σz, H', hn, hI, rv, ev, hQ⟩ := hR
          subst ev
          cases (show u = Value.none from rv)
          obtain ⟨t1, t2, _, _, t5, t6, acc, c, o, t7, t8, t9⟩ := told hI
          exact .inl ⟨.inl rfl, H', ys, acc, c, o, t1, t2, t5, t6, t7, ⟨t8, by omega⟩, t9, hQ⟩
    · obtain ⟨ys, xx, ip, σ', H', hn, _, hI, h3⟩ := hY
      obtain ⟨t1, t2, t3, t4, _, _, acc, c, o, t7, t8, t9⟩ := told hI
      have many : acc.size = ys.length := by
        have z1 := t8.length
        rw [Array.length_toList] at z1
        exact z1.symm
      exact ⟨t1, t2, t3, t4, ⟨acc, c, t7.2, by rw [many]; exact hn⟩, ⟨o, t9.2⟩, fun s' z => hkk _ _ (h3 s' z)⟩
    · refine ht Aw S C [] _ sizeLine [] s2 _ [] _ _ id id s2 (start N vs) H _ ⟨far, over_func, rfl, rfl, rfl⟩ (Nat.add_zero _) ⟨fun n ys s₀ s' fl hn hs => ?_, fun n s₀ e s' hx => ?_⟩ R0 hq
      · cases fl with
        | next =>
          obtain ⟨σ', H', hI, hQ⟩ := hs
          exact seg_end (.ok (.ret .none)) ⟨ys, .non, _, σ', H', hn, hI, rfl, rfl, hQ⟩
        | ret u =>
          obtain ⟨v, σz, H', hI, rv, ev, hQ⟩ := hs
          exact seg_end (.ok (.ret u)) ⟨ys, v, _, σz, H', hn, hI, rv, ev, hQ⟩
        | brk => exact hs.elim fun _ q => q.elim fun _ q => q.2.elim
        | cont => exact hs.elim fun _ q => q.elim fun _ q => q.2.elim
      · refine seg_wrap ?_
        rw [over_func]
        refine wpAny_mono (show wpAny (model P w) (Aw.deeper (envOfC qual scope s.heap.objs.size f cdv)) (leaving (envOfC qual scope s.heap.objs.size f cdv) e) (fun _ s3 => CX P w outer H s noE e s3 ∧ ∀ p ∈ [(s1.heap.objs.size, gob)], s3.heap.get? p.1 = some p.2) (fun _ _ => False) s' from hx) (fun _ s3 q => ?_) fun _ s3 q => q.elim
        obtain ⟨⟨_, _, _, _, _, _, _, _, _, _, _, _, z⟩, _⟩ := q
        exact z.elim
  exact main _ _ _ _ rfl rfl rfl fun _ => Heap.get?_push_size _ rfl
section
variable {X : Cx} {k : Nat}
structure PGenY (X : Cx) (k : Nat) (e : Expr) (tg : TGen) : Prop where
  run : ∀ (pins : List (Addr × Obj)) (s : Shared) (σ : L2.St) (H : Hp) (cont : List V → Hp → Prop), Inv X pins σ H s → tg σ H cont → wpAny (model X.prog X.w) X.A (eval e X.env) (fun u s' => ∃ H1 sc, Inv X pins σ H1 sc ∧ MadeY X.prog X.w k X.stack H1 sc cont u s') X.xe s
def tCallY (sp : SpY) (t : TA) : TGen := fun σ H cont => t σ H fun vs H1 => sp vs H1 cont
theorem pgy_call {f : Addr} {fd : FuncData} {ps : List Str} {sp : SpY} {x : Str} {p pos' : Pos} {e : Expr} {es : List Expr} {t : TA} (F : GenY X.prog X.w X.K X.mg X.base k f fd ps sp) (hr : Room k X.A) (hg : Gl X x) (hm : X.mg x = some (.ref f)) (hk : PySem.W.keepIn X.K (.ref f) = true) (hb : Binds X.K fd ps [])
    (ha : PA X (e :: es) t) (he : starEach (e :: es) X.env = (false, eval e X.env) :: starEach es X.env := by rfl) (hpl : (backTo pos' (starEach es X.env)).any (·.1) = false := by rfl) (hdb : (x == ("__debug__" : Str)) = false := by decide) :
    PGenY X k (.Call (.Name x p) (e :: es) [] pos') (tCallY sp t) := by
  refine ⟨fun pins s σ H cont I h => wpAny_Call_Name_kw (ld_glob I hg hm ?_ hdb)⟩
  refine PySem.W.callWith_K (h₀ := X.base) I.ok.mod.kin hk (thn (ha.run pos' pins s σ H _ I h) fun us z1 ⟨vs, H1, I1, r, q⟩ => ⟨I1.kIn, ?_⟩) he hpl
  have hl : us.length = ps.length := by
    rw [← r.length]
    exact F.len _ _ _ q
  have bt := hb z1 us I1.kIn (by rw [List.append_nil]; exact hl)
  rw [List.append_nil] at bt
  refine wpAny_call (codeAny_mono (F.run X.A X.stack z1 H1 ⟨us, []⟩ us vs cont hr I1.env0 bt r q) fun z s2 hz => ?_)
  cases z with
  | error e => exact hz.elim
  | ok fl =>
    cases fl with
    | ret u => exact ⟨H1, z1, I1, hz⟩
    | next => exact hz.elim
    | brk => exact hz.elim
    | cont => exact hz.elim
theorem lcY_core {pins : List (Addr × Obj)} {s : Shared} {σ : L2.St} {H : Hp} {Q : VK} {e : Expr} {tg : TGen} {x : Str} {p1 p2 pos pos' : Pos} {sc : Scope} {own : List (Str × Nat)} {use : Option (Value → Sem Unit)} {Qf : Value → Shared → Prop} (hgen : PGenY X k e tg) (hr : Room (k + 1) X.A) (hN : X.N.Nodup) (ok : BlkOk X.N X.env.scope sc own) (hx : sc.names.lookup x = some .local)
    (hdb : (x == ("__debug__" : Str)) = false) (hs : ∀ y, foldedSetIterable e X.env y = pure y) (I : Inv X pins σ H s) (h : tListG tg σ H Q)
    (hRR : ∀ D C z m G, Inv X pins σ G z → Q (.ref D) G → z.heap.Ns C m → FpOk X pins G C → compPost (model X.prog X.w) X.A X.xe use Qf (.ref D) C (.ok .next) z) :
    wpAny (model X.prog X.w) X.A (comprehension (.ListComp (.Name x p1) [⟨.Name x p2, e, [], 0⟩] sc pos) sc X.env pos' (newList []) false (eval e X.env) use) Qf X.xe s := by
  have frees : ∀ y ∈ sc.names, y.2 = .free → ∃ c, X.env.cells.lookup y.1 = some c := fun y hy e => I.ok.has _ ((ok.free y hy e).elim (fun a => .inl a) fun a => .inr a)
  refine wpAny_comprehension_free (use := use) rfl hs (closure_ok frees) ok.kind (fun y hy e => (ok.uniq y hy).trans (congrArg some e)) (thn (hgen.run pins s σ H _ I h) fun u s1 ⟨H1, sc0, I1, a, g, cd, eu, ⟨ge1, ge2⟩, hg, hgs, hos, hb, hl, old, wake⟩ => ?_)
  subst eu
  refine wpAny_pyIter_gen hg (wpAny_newObj_type (newEnv_comp ?_) (by show 0 ≤ sizeLine; decide))
  obtain ⟨D, hD⟩ : ∃ D, D = s1.heap.objs.size := ⟨_, rfl⟩
  rw [← hD]
  have I2 : Inv X pins σ H1 s1 := I1.call' (ch := []) hos (Un.kept old) (I1.hok.kept old) hb fun b z => nomatch z
  obtain ⟨s3, hs3⟩ : ∃ s3 : Shared, s3 = { s1 with heap := s1.heap.push { cls := .type "list", data := .seq ([] : List Value).toArray } } := ⟨_, rfl⟩
  have p3 : s3.heap = s1.heap.push { cls := .type "list", data := .seq ([] : List Value).toArray } := by rw [hs3]
  have keep3 : ∀ b o, s1.heap.get? b = some o → s3.heap.get? b = some o := fun b o e => by
    rw [p3]
    exact Heap.get?_push_of_some (h := s1.heap) _ e
  have at3 : s3.heap.get? D = some (lstObj #[] 0) := by
    rw [p3, hD]
    exact Heap.get?_push_size s1.heap rfl
  have I3 : Inv X pins σ (upd H1 D (.lst [])) s3 := by
    rw [hs3]
    refine I2.laid (t' := s1.toks) (fun b o e => Heap.get?_push_of_some _ e) (Nat.le_of_eq hD.symm) ⟨Nat.zero_le _, [], 0, .nil, ?_⟩
    rw [hD]
    exact Heap.get?_push_size s1.heap rfl
  have I4 := block_start (fp := []) I3 ok hN fun b hb => nomatch hb
  have goal : codeAny (model X.prog X.w) X.A (.compStart (.ListComp (.Name x p1) [⟨.Name x p2, e, [], 0⟩] sc pos) 0 (.ref a) (.ref D) (compEnvC sc (cellsFrom (s3.heap.objs.size + 1) sc.names (cloFrom X.env.cells sc.names [])) s3.heap.objs.size X.env))
      (compPost (model X.prog X.w) X.A X.xe use Qf (.ref D) s3.heap.objs.size) { s3 with heap := pushCells (s3.heap.push { cls := .type "dict", data := .dict #[] }) sc.names } := by
    have hkx : (compEnvC sc (cellsFrom (s3.heap.objs.size + 1) sc.names (cloFrom X.env.cells sc.names [])) s3.heap.objs.size X.env).kindOf x = some .local := lookup_relabel_local hx
    have hkf : (compEnvC sc (cellsFrom (s3.heap.objs.size + 1) sc.names (cloFrom X.env.cells sc.names [])) s3.heap.objs.size X.env).scope.kind = .function := ok.kind
    have hlo : (compEnvC sc (cellsFrom (s3.heap.objs.size + 1) sc.names (cloFrom X.env.cells sc.names [])) s3.heap.objs.size X.env).locals = s3.heap.objs.size := rfl
    obtain ⟨ce, hce⟩ : ∃ ce, ce = compEnvC sc (cellsFrom (s3.heap.objs.size + 1) sc.names (cloFrom X.env.cells sc.names [])) s3.heap.objs.size X.env := ⟨_, rfl⟩
    rw [← hce] at I4 hkx hkf hlo ⊢
    obtain ⟨C, hC⟩ : ∃ C, C = s3.heap.objs.size := ⟨_, rfl⟩
    rw [← hC] at hlo ⊢
    obtain ⟨m4, ns4, _⟩ := I4.loc
    have ns4 : (pushCells (s3.heap.push { cls := .type "dict", data := .dict #[] }) sc.names).Ns ce.locals m4 := ns4
    rw [hlo] at ns4
    have szD : s3.heap.objs.size = D + 1 := by rw [p3, Heap.size_push, hD]
    have nDC : D ≠ C := by
      rw [hC, szD]
      exact Nat.ne_of_lt (Nat.lt_succ_self D)
    have keep4 : ∀ b o, s3.heap.get? b = some o → (pushCells (s3.heap.push { cls := .type "dict", data := .dict #[] }) sc.names).get? b = some o := fun b o e => pushCells_keeps _ _ _ _ (Heap.get?_push_of_some _ e)
    obtain ⟨s4, hs4⟩ : ∃ s4 : Shared, s4 = { s3 with heap := pushCells (s3.heap.push { cls := .type "dict", data := .dict #[] }) sc.names } := ⟨_, rfl⟩
    have h4 : s4.heap = pushCells (s3.heap.push { cls := .type "dict", data := .dict #[] }) sc.names := by rw [hs4]
    have g4 : s4.gens = s1.gens := by rw [hs4, hs3]
    have o4 : s4.os = s1.os := by rw [hs4, hs3]
    rw [← hs4]
    rw [← h4] at ns4 keep4
    have old4 : ∀ b o, s1.heap.get? b = some o → s4.heap.get? b = some o := fun b o e => keep4 b o (keep3 b o e)
    have hg4 : s4.heap.IsGen a g := hg.keeps old4
    have locOf : ∀ {h : Heap} {m : Str → Option Value}, h.Ns C m → ∃ o, LocO C o ∧ h.get? C = some o := fun {h m} ⟨o, es, ep, e, ed, r⟩ => ⟨o, ⟨⟨m, fun h' e' => ⟨o, es, ep, e', ed, r⟩⟩, fun v q => by rw [ed] at q; cases q⟩, e⟩
    have naD : a ≠ D := Nat.ne_of_lt (by rw [hD]; exact ge2)
    have naC : a ≠ C := Nat.ne_of_lt (by rw [hC, szD, hD]; exact Nat.lt_succ_of_lt ge2)
    have lim0 : cStatics < s1.heap.objs.size := let ⟨_, hn, _⟩ := hl; hn.lt
    have nkD : cStatics ≠ D := by
      rw [hD]
      exact Nat.ne_of_lt lim0
    have nkC : cStatics ≠ C := by
      rw [hC, szD, hD]
      exact Nat.ne_of_lt (Nat.lt_succ_of_lt lim0)
    have loop : codeAny (model X.prog X.w) X.A (.compLoop (.ListComp (.Name x p1) [⟨.Name x p2, e, [], 0⟩] sc pos) 0 (.ref a) (.ref D) ce) (compPost (model X.prog X.w) X.A X.xe use Qf (.ref D) C) s4 := by
      refine compLoop_any (fun n z => ∃ gs, z.gens[g]? = some gs ∧ z.heap.IsGen a g ∧ z.heap.NoLimit ∧ gs.Goes (model X.prog X.w) X.A.in1 (EndY X.prog X.w X.stack H1 sc0 D C a g fun out H2 => ∀ p, H2 p = none → Q (.ref p) (upd H2 p (.lst out))) (ItemY sc0 D C a g) n (.send .none) (z.setGen g .running)) ?_ sizeLine
        ⟨.fresh cd, by rw [g4]; exact hgs, hg4, hl.keeps old4, rfl, ?_⟩
      · rintro n s5 ⟨gs, hgs5, hg5, hl5, hgo⟩
        have hgl : g < s5.gens.size := (Array.getElem?_eq_some_iff.mp hgs5).1
        refine wpAny_gsz (n := g + 1) hgl (next_genG (F := fun _ _ s₁ => StopY X.prog X.w X.stack H1 sc0 D C (fun out H2 => ∀ p, H2 p = none → Q (.ref p) (upd H2 p (.lst out))) s₁) (Er := fun _ _ => False) hr.hd hl5 (by have := hr.dp; omega) hg5 hgs5 hgo (fun v s6 gs' hbare hv hsz => ?_) (fun s6 hp h' hk _ => ?_) fun e s6 he => he.elim)
        · obtain ⟨t1, t2, t3, t4, ⟨acc, c, t5, t6⟩, ⟨oC, tC1, tC2⟩, kap⟩ := hv
          obtain ⟨⟨m6, hm6⟩, _⟩ := id tC1
          have ns6 : (s6.setGen g gs').heap.Ns ce.locals m6 := by
            rw [hlo]
            exact hm6 _ tC2
          refine wpAny_pure (wpAny_assign_Name (wpAny_storeName_local hkx ns6 (fun h7 ns7 sb7 => ?_) (by rw [hkf]; rfl)))
          refine wpAny_pure ?_
          refine ite_tt (wpAny_Name (wpAny_loadName_local hkf hkx ns7 (if_pos rfl) ?_) hdb)
          have pl7 : h7.PlainList D acc := ⟨c, (sb7.2 D (by rw [hlo]; exact nDC)).trans t5⟩
          refine wpAny_list_append_plain (s := { s6.setGen g gs' with heap := h7, toks := s6.toks + 1 }) pl7 (fun h8 pl8 sb8 => ?_) (by omega)
          obtain ⟨c8, e8⟩ := pl8
          have ns8 : h8.Ns C (fun y => if y = x then some v else m6 y) := (hlo ▸ ns7).sameBut sb8 nDC.symm
          have old8 : ∀ b o, b ≠ D → b ≠ C → s6.heap.get? b = some o → h8.get? b = some o := fun b o n1 n2 e => (sb8.2 b n1).trans ((sb7.2 b (by rw [hlo]; exact n2)).trans e)
          have hsz6 : g < s6.gens.size := by
            have q : (s6.setGen g gs').gens.size = s6.gens.size := setGen_size _ _ _
            have hsz' : g + 1 ≤ (s6.setGen g gs').gens.size := hsz
            omega
          have nap : Nap D C v s6 (({ s6.setGen g gs' with heap := h8, toks := s6.toks + 1 } : Shared).setGen g .running) :=
            ⟨rfl, allBare_setGen (s := { s6.setGen g gs' with heap := h8, toks := s6.toks + 1 }) (allBare_setGen t2 hbare) rfl, old8, fun acc' c' e' => by
              rw [t5] at e'
              cases e'
              exact ⟨c8, e8⟩, locOf ns8⟩
          have kp := kap _ nap
          match n, kp with
          | 0, kp => exact kp.elim
          | m + 1, kp =>
            refine ⟨m, Nat.lt_succ_self m, gs', setGen_at hsz6, ?_, ?_, kp⟩
            · obtain ⟨o, nm, qn, ho, r⟩ := t4
              exact ⟨o, nm, qn, old8 a o naD naC ho, r⟩
            · obtain ⟨mc, hns, hnn⟩ := t3
              exact ⟨mc, hns.at' fun o e => old8 _ o nkD nkC e, hnn⟩
        · obtain ⟨H', ys, acc, c, oC, t1, t2, t3, t4, ⟨t5, t6⟩, ⟨t7, t8⟩, ⟨t9, t10, t11⟩, t12⟩ := hp
          obtain ⟨⟨mC, hmC⟩, _⟩ := t10
          have le : sc0.heap.objs.size ≤ D := by
            rw [hD]
            exact Nat.le_trans ge1 (Nat.le_of_lt ge2)
          have J : Inv X pins σ (upd H' D (.lst ys)) { s6.setGen g .finished with heap := h' } :=
            I1.drained le t8 (hk _ _ t6) t7 ExOk.nil t1 (allBare_setGen t2 rfl) (t3.trans (Un.kept hk)) (t4.kept hk) t5
          exact hRR D C _ mC _ J (t12 D t5) (hmC _ (hk _ _ t11)) (I3.fpOk (b := C) (Nat.le_of_eq hC.symm) (H' := upd H' D (.lst ys)) (by rw [upd_ne nDC.symm]; exact t9))
      · refine wake X.A.in1 D C (s4.setGen g .running) ⟨hr.hd, ?_, ?_⟩ I1.ok.frames (Nat.le_of_eq hD.symm) (by rw [hC, szD, hD]; exact Nat.le_succ _) nDC old4 ⟨0, keep4 _ _ at3⟩ (locOf ns4) (o4.trans hos) (allBare_setGen (by rw [g4]; exact hb) rfl)
        · have := hr.dp
          show X.A.depth + 3 * k + 5 < _
          omega
        · have := hr.un
          show X.A.units + 1 + 16 * k + 200 < _
          omega
    exact codeAny_compStart_list loop (wpAny_pyIter_gen hg4 loop)
  exact hs3 ▸ goal
theorem pe_lcY {e : Expr} {tg : TGen} {x : Str} {p1 p2 pos : Pos} {sc : Scope} {own : List (Str × Nat)} (hgen : PGenY X k e tg) (hr : Room (k + 1) X.A) (hN : X.N.Nodup) (ok : BlkOk X.N X.env.scope sc own) (hx : sc.names.lookup x = some .local)
    (hdb : (x == ("__debug__" : Str)) = false := by decide) (hs : ∀ y, foldedSetIterable e X.env y = pure y := by intro _; rfl) : PE X (.ListComp (.Name x p1) [⟨.Name x p2, e, [], 0⟩] sc pos) (tListG tg) := by
  refine ⟨fun pins s σ H Q I h => ?_⟩
  rw [eval_ListComp]
  refine lcY_core hgen hr hN ok hx hdb hs I h fun D C s' m H' I' q hn f => ⟨m, hn, fun h'' sb => ?_⟩
  obtain ⟨a0, a1, a2, a3, a4, a5⟩ := f
  exact ⟨.ref D, H', I'.turned (t' := s'.toks) (fun b o hb e => (sb.2 b hb).trans e) a0 a1 a3 a4 a5, rfl, q⟩
/-- name = [x for x in f(..)] on one line, the name a local -/
theorem ps_setLcY {i : Nat} {y : Str} {py : Pos} {e : Expr} {tg : TGen} {x : Str} {p1 p2 pos spos : Pos} {sc : Scope} {own : List (Str × Nat)} (hgen : PGenY X k e tg) (hr : Room (k + 1) X.A) (hN : X.N.Nodup) (hy : X.N[i]? = some y) (hyl : X.env.scope.names.lookup y = some .local)
    (hsw : swapsWith (.ListComp (.Name x p1) [⟨.Name x p2, e, [], 0⟩] sc pos) (some (.Name y py)) spos.line X.env = pure true) (ok : BlkOk X.N X.env.scope sc own) (hx : sc.names.lookup x = some .local)
    (hdb : (x == ("__debug__" : Str)) = false := by decide) (hs : ∀ y, foldedSetIterable e X.env y = pure y := by intro _; rfl) : PS X (.Assign [.Name y py] (.ListComp (.Name x p1) [⟨.Name x p2, e, [], 0⟩] sc pos) spos) (tAsg (tListG tg) (gName i)) := by
  refine ⟨fun pins s σ H D I h => ?_⟩
  rw [exec_Assign_Name_used _ _ _ _ hsw]; refine wpAny_bind (wpAny_standAt (wpAny_bind ?_))
  show wpAny _ X.A (do let _ ← comprehension (.ListComp (.Name x p1) [⟨.Name x p2, e, [], 0⟩] sc pos) sc X.env (firstIterPos [⟨.Name x p2, e, [], 0⟩] pos) (newList []) false (eval e X.env) (some (assign (.Name y py) X.env))) _ _ s
  have h : tListG tg σ H (fun x H1 => gName i x σ H1 D.nx) := h
  refine wpAny_bind (thn (lcY_core (Qf := fun _ s' => SP X pins D .next s') hgen hr hN ok hx hdb hs I h fun D' C s' m H' I' q hn f => ?_) fun _ s' hq => wpAny_pure (wpAny_pure hq))
  show wpAny _ _ (assign (.Name y py) X.env (.ref D')) _ _ _
  refine wpAny_assign_Name (store_ok2 (v := V.ref D') I' hN hy (.inl hyl) rfl (fun s2 I2 ⟨a, sb, ha⟩ => ?_) (.inr hyl))
  obtain ⟨a0, a1, a2, a3, a4, a5⟩ := f
  have haC : C ≠ a := by
    rcases ha with z | z
    · rw [z]; exact a1
    · exact fun e => a4 y a z e.symm
  refine ⟨m, hn.sameBut sb haC, fun h3 sb3 => ⟨_, H', I2.turned (t' := s2.toks) (fun b o hb e => (sb3.2 b hb).trans e) a0 a1 a3 a4 a5, q⟩⟩
end
end Cc

/-! Lambdas as values (one parameter with a default, or none): kept in lists, called later by a def that catches what they raise. -/
namespace Cc
open PySem PySem.Spec PyProof.Rows L2
open LamX PySem.W
/-- a lambda's data, its defaults at dv -/
abbrev laFn (q : Str) (params : Arguments) (body : Expr) (scope : Scope) (cl : List (Str × Addr)) (pm dv cdv ct : Value) : FuncData := { kla_fn "<lambda>" q params body scope cl pm cdv ct with defaults := dv }
abbrev laObj (q : Str) (params : Arguments) (body : Expr) (scope : Scope) (cl : List (Str × Addr)) (pm dv : Value) (c' : Addr) (ctv : Value) : Obj := { cls := .type "function", data := .func (laFn q params body scope cl pm dv (.ref c') ctv) }
section
variable {M : Model} {A : Around} {E : Value → Shared → Prop} {s : Shared} {qual : Str} {params : Arguments} {body : Expr} {scope : Scope} {env : Env} {c P : Addr} {ps : Array Value} {pos : Pos} {n : Nat} {mg : Str → Option Value} {clos : List (Str × Addr)} {Q : Value → Shared → Prop} {dv : Value}
theorem la_new (hcl : closureFor scope env = pure clos) (hge : env.globals = mainGlobals) (hg : s.heap.Ns mainGlobals mg) (hcode : env.code = .ref c) (C : CodeHd s.heap c P) (hP : s.heap.get? P = some { cls := .none, data := .fields ps }) (ht : TriplesOk ps.toList)
    (hno : codeAmong pos ps.toList = none) (hgP : mainGlobals ≠ P) (hb : s.heap.BuiltinsAt mg P)
    (h : ∀ c' ctv h' tk, Heap.ExtBut P s.heap h' → s.heap.objs.size ≤ c' → c' < h'.objs.size → h'.CodeRec (.ref c') qual → h'.get? P = some { cls := .none, data := .fields (ps ++ #[rawInt pos.line, rawInt pos.col, .ref c']) } →
      Q (.ref h'.objs.size) { s with heap := h'.push (laObj qual params body scope clos ((mg "__name__").getD .none) dv c' ctv), toks := tk }) :
    wpAny M A (makeTail "<lambda>" qual params (.expr body) scope env dv .none none pos n) Q E s := by
  obtain ⟨bm, ob, b1, b2, _, b3, b4, b5, b6, b7⟩ := hb
  unfold makeTail
  rw [hcl, hge]
  refine wpAny_bind (wpAny_pure ?_); cases clos with
  | nil =>
    simp only [List.isEmpty_nil, if_true]; refine wpAny_bind (wpAny_pure (wpAny_bind (wpAny_functionCodeX hcode (C.code hP ht) (C.tab hP) hno fun c' h' tk hx hsz hlt _ hrec htb _ => ?_)))
    have g' := hg.extBut hx hgP
    exact wpAny_bind (wpAny_builtinsFor g' b1 b2 (hx _ _ b3 b4) b5 b6 b7 (wpAny_bind (wpAny_nsGet g' (wpAny_bind (wpAny_pure (wpAny_newObj_type (h c' .none h' tk hx hsz hlt hrec htb.2) (by size_fits)))))))
  | cons q r =>
    simp only [List.isEmpty_cons, Bool.false_eq_true, if_false]; refine wpAny_bind (wpAny_newTextTuple (wpAny_bind (wpAny_functionCodeX hcode ((C.keeps fun b o e => Heap.get?_push_of_some _ e).code (Heap.get?_push_of_some _ hP) ht) ((C.keeps fun b o e => Heap.get?_push_of_some _ e).tab (Heap.get?_push_of_some _ hP)) hno fun c' h' tk hx hsz hlt _ hrec htb _ => ?_)))
    have g' := (hg.push _).extBut hx hgP
    have hx2 : Heap.ExtBut P s.heap h' := fun b o nb e => hx b o nb (Heap.get?_push_of_some _ e)
    have hsz2 : s.heap.objs.size ≤ c' := Nat.le_trans (by rw [Heap.size_push]; exact Nat.le_succ _) hsz
    exact wpAny_bind (wpAny_builtinsFor g' b1 b2 (hx2 _ _ b3 b4) b5 b6 b7 (wpAny_bind (wpAny_nsGet g' (wpAny_bind (wpAny_pure (wpAny_newObj_type (h c' _ h' tk hx2 hsz2 hlt hrec htb.2) (by size_fits)))))))
theorem la_hit {c' : Addr} (hcl : closureFor scope env = pure clos) (hge : env.globals = mainGlobals) (hg : s.heap.Ns mainGlobals mg) (hcode : env.code = .ref c) (C : CodeHd s.heap c P) (hP : s.heap.get? P = some { cls := .none, data := .fields ps }) (ht : TriplesOk ps.toList)
    (hyes : codeAmong pos ps.toList = some (.ref c')) (hb : s.heap.BuiltinsAt mg P) (h : ∀ (ctv : Value) (h' : Heap) (tk : Tok), (∀ b o, s.heap.get? b = some o → h'.get? b = some o) → s.heap.objs.size ≤ h'.objs.size →
      Q (.ref h'.objs.size) { s with heap := h'.push (laObj qual params body scope clos ((mg "__name__").getD .none) dv c' ctv), toks := tk }) :
    wpAny M A (makeTail "<lambda>" qual params (.expr body) scope env dv .none none pos n) Q E s := by
  obtain ⟨bm, ob, b1, b2, _, b3, b4, b5, b6, b7⟩ := hb
  unfold makeTail
  rw [hcl, hge]
  refine wpAny_bind (wpAny_pure ?_); cases clos with
  | nil =>
    simp only [List.isEmpty_nil, if_true]; exact wpAny_bind (wpAny_pure (wpAny_bind (wpAny_functionCode_hit hcode (C.code hP ht) hyes (wpAny_bind (wpAny_builtinsFor hg b1 b2 b4 b5 b6 b7 (wpAny_bind (wpAny_nsGet hg (wpAny_bind (wpAny_pure (wpAny_newObj_type (h .none s.heap s.toks (fun _ _ e => e) (Nat.le_refl _)) (by size_fits)))))))))))
  | cons q r =>
    simp only [List.isEmpty_cons, Bool.false_eq_true, if_false]; refine wpAny_bind (wpAny_newTextTuple (wpAny_bind (wpAny_functionCode_hit hcode ((C.keeps fun b o e => Heap.get?_push_of_some _ e).code (Heap.get?_push_of_some _ hP) ht) hyes ?_)))
    have up : ∀ oT : Obj, s.heap.objs.size ≤ (s.heap.push oT).objs.size := fun oT => by rw [Heap.size_push]; exact Nat.le_succ _
    exact wpAny_bind (wpAny_builtinsFor (hg.push _) b1 b2 (Heap.get?_push_of_some _ b4) b5 b6 b7 (wpAny_bind (wpAny_nsGet (hg.push _) (wpAny_bind (wpAny_pure (wpAny_newObj_type (h _ _ s.toks (fun b o e => Heap.get?_push_of_some _ e) (up _)) (by size_fits)))))))
end
/-! ### the lambda as a value -/
def LamO (f : Addr) (q : Str) (params : Arguments) (body : Expr) (scope : Scope) (cl : List (Str × Addr)) (c' : Addr) (dv : Value) : HO := .ext fun h => ∃ pm ctv, h.get? f = some (laObj q params body scope cl pm dv c' ctv)
/-- a lambda at f, its defaults ds -/
def LamAt (H : Hp) (f : Addr) (q : Str) (params : Arguments) (body : Expr) (scope : Scope) (cl : List (Str × Addr)) (ds : List V) : Prop :=
  ∃ c' dv, H f = some (LamO f q params body scope cl c' dv) ∧ H c' = some (CodeO c' q) ∧ ((ds = [] ∧ dv = .none) ∨ ∃ T v, ds = [v] ∧ dv = .ref T ∧ H T = some (.tup [v]))
theorem lamO_ne {f : Addr} {q : Str} {params : Arguments} {body : Expr} {scope : Scope} {cl : List (Str × Addr)} {c' : Addr} {dv : Value} (ps : Array Value) : LamO f q params body scope cl c' dv ≠ .tbl ps := fun z => by
  unfold LamO at z
  cases z
theorem LamAt.ext {H H1 : Hp} {f : Addr} {q : Str} {params : Arguments} {body : Expr} {scope : Scope} {cl : List (Str × Addr)} {ds : List V} (h : LamAt H f q params body scope cl ds) (e : ExtN H H1) : LamAt H1 f q params body scope cl ds := by
  obtain ⟨c', dv, h1, h2, h3⟩ := h
  refine ⟨c', dv, e _ _ h1 lamO_ne, e _ _ h2 codeO_ne, h3.imp id fun ⟨T, v, z1, z2, z3⟩ => ⟨T, v, z1, z2, e _ _ z3 fun _ z => by cases z⟩⟩
def tLamV (T : List (Addr × Str)) (q : Str) (params : Arguments) (body : Expr) (scope : Scope) (cl : List (Str × Addr)) (ds : List V) : TE := fun σ H Q => Tabs T H ∧ ∀ f H1, H f = none → ExtN H H1 → Tabs T H1 → LamAt H1 f q params body scope cl ds → Q (.ref f) H1
section
variable {X : Cx} {pins : List (Addr × Obj)} {σ : L2.St} {H : Hp} {s : Shared} {T : List (Addr × Str)} {c P : Addr} {params : Arguments} {body : Expr} {scope : Scope} {pos : Pos}
/-- the made function is tracked -/
theorem lam_in {s' : Shared} {h' : Heap} {tk : Nat} {cl : List (Str × Addr)} {pm dv ctv : Value} {c' : Addr} {q : Str} (I : Inv X pins σ H { s' with heap := h', toks := tk }) :
    Inv X pins σ (upd H h'.objs.size (LamO h'.objs.size q params body scope cl c' dv)) { s' with heap := h'.push (laObj q params body scope cl pm dv c' ctv), toks := tk } :=
  I.laid (t' := tk) (fun b o e => Heap.get?_push_of_some _ e) (Nat.le_refl _) ⟨⟨_, _, Heap.get?_push_size _ rfl⟩, ⟨_, Heap.get?_push_size _ rfl⟩, fun h1 h2 ⟨pm, ctv, e⟩ st => ⟨pm, ctv, st _ e⟩⟩
theorem la_tail {dv : Value} {ds : List V} {E : Value → Shared → Prop} {Q : Value → Shared → Prop} (I : Inv X pins σ H s) (TB : TabB X.base X.mg c P) (hcode : X.env.code = .ref c) (hm : (P, X.env.qual ++ "<lambda>") ∈ T) (hu : ∀ p ∈ T, p.1 = P → p.2 = X.env.qual ++ "<lambda>") (hT : Tabs T H)
    (hfree : ∀ y ∈ scope.names, y.2 = .free → ∃ c, X.env.cells.lookup y.1 = some c) (hd : (ds = [] ∧ dv = .none) ∨ ∃ T v, ds = [v] ∧ dv = .ref T ∧ H T = some (.tup [v]))
    (h : ∀ (f : Addr) (H1 : Hp) (s' : Shared), H f = none → Inv X pins σ H1 s' → ExtN H H1 → Tabs T H1 → LamAt H1 f (X.env.qual ++ "<lambda>") params body scope (cloFrom X.env.cells scope.names []) ds → Q (.ref f) s') :
    wpAny (model X.prog X.w) X.A (makeTail "<lambda>" (X.env.qual ++ "<lambda>") params (.expr body) scope X.env dv .none none pos pos.line) Q E s := by
  obtain ⟨ps, hP, ht, ha⟩ := hT _ hm; have bP : s.heap.BuiltinsAt X.mg P := TB.bm.keeps I.bk
  have atP : s.heap.get? P = some { cls := .none, data := .fields ps } := I.hok P _ hP
  -- a fresh place told: all that is wanted
  have last : ∀ (f c' : Addr) (H1 : Hp) (s' : Shared), H f = none → H1 f = none → ExtN H H1 → Tabs T H1 → H1 c' = some (CodeO c' (X.env.qual ++ "<lambda>")) → Inv X pins σ (upd H1 f (LamO f (X.env.qual ++ "<lambda>") params body scope (cloFrom X.env.cells scope.names []) c' dv)) s' → Q (.ref f) s' := by
    intro f c' H1 s' nf nf1 eN T1 hc J
    have e1 : ∀ b o, H1 b = some o → upd H1 f (LamO f (X.env.qual ++ "<lambda>") params body scope (cloFrom X.env.cells scope.names []) c' dv) b = some o := fun b o e => by
      rw [upd_ne (ne_of_none e nf1)]
      exact e
    exact h f _ s' nf J (eN.trans (ExtN.of e1)) (T1.ext e1) ⟨c', dv, upd_same, e1 _ _ hc, hd.imp id fun ⟨t, v, z1, z2, z3⟩ => ⟨t, v, z1, z2, e1 _ _ (eN _ _ z3 fun _ z => by cases z)⟩⟩
  cases hck : codeAmong pos ps.toList with
  | none =>
    refine la_new (mg := X.mg) (c := c) (P := P) (ps := ps) (closure_ok hfree) I.ok.glob (I.mod.glob.keeps I.bk) hcode (TB.code.keeps I.bk) atP ht hck TB.gP bP fun c' ctv h' tk hx hge hlt hrec htb => ?_
    obtain ⟨c2, oc, vs, t, e2, hoc, hdat, hv⟩ := hrec
    cases e2
    have nC : H c' = none := I.hok.fresh hge; have J := inv_table (t' := tk) (more := #[rawInt pos.line, rawInt pos.col, .ref c']) (h' := h') I hP hx htb hge ⟨oc, vs, t, hoc, hdat, hv⟩
    have eN : ExtN H (upd (upd H P (.tbl (ps ++ #[rawInt pos.line, rawInt pos.col, .ref c']))) c' (CodeO c' (X.env.qual ++ "<lambda>"))) := fun b o e n => by
      have nP : b ≠ P := fun z => n ps (by rw [z, hP] at e; exact (Option.some.inj e).symm)
      rw [upd_ne (ne_of_none e nC), upd_ne nP]
      exact e
    have szf : s.heap.objs.size ≤ h'.objs.size := Nat.le_trans hge (Nat.le_of_lt hlt)
    have nf : H h'.objs.size = none := I.hok.fresh szf
    refine last h'.objs.size c' _ _ nf (J.hok.fresh (Nat.le_refl _)) eN (fun p hp => ?_) upd_same (lam_in J)
    by_cases hb : p.1 = P
    · rw [hu p hp hb, hb]
      have el : (ps ++ #[rawInt pos.line, rawInt pos.col, .ref c']).toList = ps.toList ++ [rawInt pos.line, rawInt pos.col, .ref c'] := by simp
      refine ⟨_, by rw [upd_ne (ne_of_none hP nC), upd_same], by rw [el]; exact PySem.TriplesOk_snoc _ _ _ _ ht, fun p' cv hcv => ?_⟩
      rw [el] at hcv; rcases among_app _ ht hcv with z | z
      · obtain ⟨c0, z1, z2⟩ := ha p' cv z
        exact ⟨c0, z1, eN _ _ z2 codeO_ne⟩
      · exact ⟨c', z, upd_same⟩
    · obtain ⟨ps2, a1, a2, a3⟩ := hT p hp
      refine ⟨ps2, by rw [upd_ne (ne_of_none a1 nC), upd_ne hb]; exact a1, a2, fun p' cv hcv => ?_⟩
      obtain ⟨c0, z1, z2⟩ := a3 p' cv hcv
      exact ⟨c0, z1, eN _ _ z2 codeO_ne⟩
  | some cv =>
    obtain ⟨c', e, hco⟩ := ha pos cv hck; subst e
    refine la_hit (mg := X.mg) (c := c) (P := P) (ps := ps) (closure_ok hfree) I.ok.glob (I.mod.glob.keeps I.bk) hcode (TB.code.keeps I.bk) atP ht hck bP fun ctv h' tk hx hsz => ?_
    have J : Inv X pins σ H { s with heap := h', toks := tk } := I.kept hx
    exact last h'.objs.size c' H _ (I.hok.fresh hsz) (J.hok.fresh (Nat.le_refl _)) (ExtN.refl H) hT hco (lam_in J)
theorem pe_lam0 (TB : TabB X.base X.mg c P) (hcode : X.env.code = .ref c) (hm : (P, X.env.qual ++ "<lambda>") ∈ T) (hu : ∀ p ∈ T, p.1 = P → p.2 = X.env.qual ++ "<lambda>") (hdef : defaultsOf params X.env = ([], [])) (hkw : params.kwonlyargs = [] := by rfl)
    (hfree : ∀ (ok : X.Ok), ∀ y ∈ scope.names, y.2 = .free → ∃ c, X.env.cells.lookup y.1 = some c) : PE X (.Lambda params body scope pos) (tLamV T (X.env.qual ++ "<lambda>") params body scope (cloFrom X.env.cells scope.names []) []) := by
  refine ⟨fun pins s σ H Q I h => kla_eval hdef ?_⟩
  rw [makeFunction_eq]
  simp only [List.zip_nil_right, List.filterMap_nil, List.isEmpty_nil, if_true, pure_bind]; exact la_tail I TB hcode hm hu h.1 (hfree I.ok) (.inl ⟨rfl, rfl⟩) fun f H1 s' nf J e1 e2 e3 => ⟨.ref f, H1, J, rfl, h.2 f H1 nf e1 e2 e3⟩
theorem pe_lam1 {e : Expr} {i : Int} (TB : TabB X.base X.mg c P) (hcode : X.env.code = .ref c) (hm : (P, X.env.qual ++ "<lambda>") ∈ T) (hu : ∀ p ∈ T, p.1 = P → p.2 = X.env.qual ++ "<lambda>") (hdef : defaultsOf params X.env = ([eval e X.env], [])) (he : PE X e (tC (.int i)))
    (hfree : ∀ (ok : X.Ok), ∀ y ∈ scope.names, y.2 = .free → ∃ c, X.env.cells.lookup y.1 = some c) : PE X (.Lambda params body scope pos) (tLamV T (X.env.qual ++ "<lambda>") params body scope (cloFrom X.env.cells scope.names []) [.int i]) := by
  refine ⟨fun pins s σ H Q I h => ?_⟩
  rw [arm_eval_Lambda, hdef]
  show wpAny _ _ (do let dv ← evalAll [eval e X.env]; let kdv ← holding dv (evalAllOpt []); makeFunction "<lambda>" (X.env.qual ++ "<lambda>") params (.expr body) scope X.env dv kdv [] pos pos.line) _ _ s
  refine wpAny_bind (wpAny_bind (thn (he.run pins s σ H (fun v H1 => v = .int i ∧ H1 = H) I ⟨rfl, rfl⟩) fun u s1 ⟨v, H1, I1, r1, e1, e2⟩ => ?_))
  subst e1 e2
  refine wpAny_bind (wpAny_holding (wpAny_pure (wpAny_pure (wpAny_bind (wpAny_holding (wpAny_pure ?_))))))
  rw [makeFunction_eq]
  simp only [List.zip_nil_right, List.filterMap_nil, List.isEmpty_nil, if_true, pure_bind, List.isEmpty_cons, Bool.false_eq_true, if_false]
  refine wpAny_bind (wpAny_newTextTuple ?_); have nT : H1 s1.heap.objs.size = none := I1.hok.fresh (Nat.le_refl _)
  have J : Inv X pins σ (upd H1 s1.heap.objs.size (.tup [.int i])) { s1 with heap := s1.heap.push { cls := .type "tuple", data := .seq [u].toArray } } :=
    I1.laid (t' := s1.toks) (fun b o e => Heap.get?_push_of_some _ e) (Nat.le_refl _) ⟨by show 1 ≤ sizeLine; decide, [u], .cons r1 .nil, ⟨_, Heap.get?_push_size _ rfl, rfl, _, rfl⟩⟩
  have e0 : ∀ b o, H1 b = some o → upd H1 s1.heap.objs.size (.tup [.int i]) b = some o := same_upd nT
  refine la_tail J TB hcode hm hu (h.1.ext e0) (hfree I.ok) (.inr ⟨s1.heap.objs.size, .int i, rfl, rfl, upd_same⟩) fun f H2 s' nf J2 g1 g2 g3 => ⟨.ref f, H2, J2, rfl, h.2 f H2 ?_ ((ExtN.of e0).trans g1) g2 g3⟩
  by_cases q : f = s1.heap.objs.size
  · rw [q]
    exact nT
  · rw [upd_ne q] at nf
    exact nf
end
end Cc

/-! A lambda called: its body runs among what it captured. -/
namespace Cc
open PySem PySem.Spec PyProof.Rows L2
open LamX
/-- its names: captured ones, globals, own parameters that are no names of the def around it -/
structure LamN (N : List Str) (sc scope : Scope) : Prop where
  kind : scope.kind = .function
  (co : scope.isCoroutine = false)
  (gen : scope.isGenerator = false)
  own : ∀ y ∈ scope.names, y.2 ≠ .cell ∧ (y.2 = .local → y.1 ∉ N)
  (free : ∀ y ∈ scope.names, y.2 = .free → sc.names.lookup y.1 = some .cell ∨ sc.names.lookup y.1 = some .free)
def lamNB (N : List Str) (sc scope : Scope) : Bool :=
  decide (scope.kind = .function) && !scope.isCoroutine && !scope.isGenerator && scope.names.all fun y => !decide (y.2 = .cell) && (!decide (y.2 = .local) || !N.contains y.1) && (!decide (y.2 = .free) || decide (sc.names.lookup y.1 = some .cell) || decide (sc.names.lookup y.1 = some .free))
theorem lamN_by {N : List Str} {sc scope : Scope} (h : lamNB N sc scope = true) : LamN N sc scope := by
  unfold lamNB at h
  simp only [Bool.and_eq_true, Bool.or_eq_true, Bool.not_eq_true', decide_eq_true_eq, decide_eq_false_iff_not, List.all_eq_true] at h; obtain ⟨⟨⟨h1, h2⟩, h3⟩, h4⟩ := h
  refine ⟨h1, h2, h3, fun y hy => ⟨(h4 y hy).1.1, fun e => ?_⟩, fun y hy e => ?_⟩
  · rcases (h4 y hy).1.2 with z | z
    · exact absurd e z
    · intro m
      rw [List.contains_iff_mem.mpr m] at z
      cases z
  · rcases (h4 y hy).2 with (z | z) | z
    · exact absurd e z
    · exact .inl z
    · exact .inr z
theorem LamN.has {X : Cx} {scope : Scope} (L : LamN X.N X.env.scope scope) (ok : X.Ok) : ∀ y ∈ scope.names, y.2 = .free → ∃ c, X.env.cells.lookup y.1 = some c := fun y hy e => ok.has _ (L.free y hy e)
section
variable {X : Cx} {pins : List (Addr × Obj)} {σ : L2.St} {H HZ : Hp}
variable {s s1 : Shared}
theorem la_start {A : Around} {outer : List Env} {E : XK} {scope : Scope} {f c' : Addr} {h₁ : Heap} {tk : Nat} {m : Str → Option Value} (I : Inv X pins σ H s) (L : LamN X.N X.env.scope scope) (e0 : Env0 X.prog X.w X.K X.mg X.base A outer s1 HZ) (hd : A.handled = none)
    (un : Un (frs X.stack) [] H HZ s.heap s1.heap) (hns : h₁.Ns s1.heap.objs.size m) (kp : ∀ b o, s1.heap.get? b = some o → h₁.get? b = some o) :
    Inv (lamCx X A outer s1 HZ E scope f c') ([] : List (Addr × Obj)) σ HZ { s1 with heap := h₁, toks := tk } := by
  have caught : ∀ {y c}, (cloFrom X.env.cells scope.names []).lookup y = some c → X.env.cells.lookup y = some c := fun {y c} e => by
    rcases cloFrom_mem (PySem.mem_of_lookup e) with hmm | ⟨h1, h2⟩
    · cases hmm
    · obtain ⟨c1, hc⟩ := L.has I.ok _ h1 rfl
      rw [h2, hc]
      rfl
  have seen : ∀ {y}, scope.names.lookup y = some .free → ∃ c, (cloFrom X.env.cells scope.names []).lookup y = some c := fun {y} hl => mem_lookup (cloFrom_has (cells := X.env.cells) (acc := []) (show (y, NameKind.free) ∈ scope.names from PySem.mem_of_lookup hl))
  have stays : ∀ {c : Addr} {v : Option Value}, H c = none → s.heap.IsCell c v → h₁.IsCell c v := fun {c v} n ⟨o, ho, hdat⟩ => by
    obtain ⟨sl, q⟩ := un.any ho n (fun z => nomatch z)
    exact ⟨_, kp _ _ q, hdat⟩
  have noX : ∀ b : Addr, b ∉ (lamCx X A outer s1 HZ E scope f c').ex := fun b z => nomatch (show b ∈ ([] : List Addr) from z)
  refine ⟨⟨e0.mod, L.kind, rfl, rfl, Nat.le_refl _, fun y z c e1 e2 => I.ok.inj y z c (caught e1) (caught e2), fun y hy => ?_, fun y c z _ => (nomatch (show false = true from z)), fun _ => hd, Around.frames_deeper e0.frames, .inr ⟨rfl, rfl⟩, fun b z => absurd z (noX b), e0.bs, e0.bsz, fun b _ _ => noX b,
      fun b z => absurd z (noX b), e0.funs, e0.frf⟩,
    rfl, e0.bare, Un.kept kp, ⟨_, hns, fun i y v e1 e2 e3 => ?_⟩, fun y c e => ?_, e0.hok.fresh (Nat.le_refl _), fun y c e => ?_, fun q hq => (nomatch (show q ∈ ([] : List (Addr × Obj)) from hq)), e0.hok.kept kp, I.len⟩
  · have hy : scope.names.lookup y = some .cell ∨ scope.names.lookup y = some .free := hy; rcases hy with hy | hy
    · exact absurd rfl (L.own _ (PySem.mem_of_lookup hy)).1
    · exact seen hy
  · have e3 : Vis scope y := e3
    rcases e3 with k | k | k
    · exact absurd (List.mem_of_getElem? e1) ((L.own _ (PySem.mem_of_lookup k)).2 rfl)
    · exact (L.own _ (PySem.mem_of_lookup k)).1 rfl |>.elim
    · obtain ⟨m0, hn, hl⟩ := I.loc
      have way := L.free _ (PySem.mem_of_lookup k) rfl
      obtain ⟨u, r, q⟩ := hl i y v e1 e2 (way.elim (fun k => .inr (.inl k)) fun k => .inr (.inr k))
      obtain ⟨c2, h2⟩ := seen k
      refine ⟨u, r, .inr ⟨.inr k, c2, h2, ?_⟩⟩; rcases q with ⟨k', _⟩ | ⟨_, c3, e', z⟩
      · have k' : X.env.scope.names.lookup y = some .local := k'; rcases way with k2 | k2
        · rw [k'] at k2
          cases k2
        · rw [k'] at k2
          cases k2
      · rw [caught h2] at e'
        cases e'
        exact stays (I.freeC y _ (caught h2)) z
  · obtain ⟨u, z⟩ := I.cell y c (caught e)
    exact ⟨u, stays (I.freeC y c (caught e)) z⟩
  · obtain ⟨v, o, ho, _⟩ := I.cell y c (caught e)
    exact un.free c o ho (I.freeC y c (caught e)) (fun z => nomatch z)
/-- how its arguments bind -/
def LamBind (params : Arguments) (body : Expr) (scope : Scope) (ds : List V) : Prop :=
  (ds = [] ∧ ∀ (q : Str) (cl : List (Str × Addr)) (pm cv ctv : Value), bindArgs (laFn q params body scope cl pm .none cv ctv) ⟨[], []⟩ = pure []) ∨
  (∃ x, scope.names.lookup x = some .local ∧ ∀ (q : Str) (cl : List (Str × Addr)) (pm cv ctv : Value) (T : Addr) (u : Value), ∃ k, bindArgs (laFn q params body scope cl pm (.ref T) cv ctv) ⟨[], []⟩ = seqItems? (.ref T) >>= k ∧ k (some #[u]) = pure [(x, u)])
/-- x(), x bound to the lambda, in a def called from where it was made -/
theorem la_act {CXg : CXT} {Eg : XK} {Ng : List Str} {qg : Str} {sg : Scope} {g f : Addr} {cdg : Value} {params : Arguments} {body : Expr} {scope : Scope} {ds : List V} {k i : Nat} {a : Str} {pn : List (Addr × Obj)} {xe : Value → Shared → Prop} {W : WX} {E : XK} {tb : TE} {p1 p2 : Pos}
    (I : Inv X pins σ H s) (L : LamN X.N X.env.scope scope) (hbind : LamBind params body scope ds) (hds : ds = [] → ∀ (q : Str) (cl : List (Str × Addr)) (pm cv ctv : Value), bindArgs (laFn q params body scope cl pm .none cv ctv) ⟨[], []⟩ = pure [])
    (tk : Takes ((cxOf CXg X.prog X.w X.K X.mg X.base Ng qg sg g cdg X.A X.stack s H Eg).tr pn xe) W) (hW : ∀ cls d σ' H', E cls d H' → W cls d σ' H') (hr : Room (k + 1) (X.A.deeper (envOfC qg sg s.heap.objs.size g cdg))) (hbody : ∀ (A : Around) (outer : List Env) (s : Shared) (H : Hp) (c' : Addr), Room k (A.deeper (lamEnv X scope s.heap.objs.size f c')) → PE (lamCx X A outer s H E scope f c') body tb)
    (hN : Ng[i]? = some a) (hv : Vis sg a) (hd : (a == ("__debug__" : Str)) = false := by decide) (hcd : (a == ("__classdict__" : Str)) = false := by decide) : PE ((cxOf CXg X.prog X.w X.K X.mg X.base Ng qg sg g cdg X.A X.stack s H Eg).tr pn xe) (.Call (.Name a p1) [] [] p2)
      (fun σZ HZ Q => σZ[i]? = some (some (.ref f)) ∧ LamAt HZ f (X.env.qual ++ "<lambda>") params body scope (cloFrom X.env.cells scope.names []) ds ∧ tb σ HZ Q) := by
  refine ⟨fun pinsZ sZ σZ HZ Q IZ ⟨hs, hlam, ht⟩ => ?_⟩
  refine wpAny_Call_Name_kw (thn ((pe_var (pos := p1) (i := i) hN hv hd hcd).run pinsZ sZ σZ HZ (fun v H1 => v = .ref f ∧ H1 = HZ) IZ ⟨.ref f, hs, rfl, rfl⟩) fun u z1 ⟨v, H1, I1, r1, ev, eH⟩ => ?_)
  subst ev
  subst eH
  cases (show u = Value.ref f from r1)
  obtain ⟨c', dv, hO, hC, hD⟩ := hlam
  obtain ⟨⟨pm, ctv, of1⟩, _, _⟩ := I1.hok f _ hO
  obtain ⟨⟨oc, vs, t, hoc, hdc, hvc⟩, _, _⟩ := I1.hok c' _ hC
  refine PySem.W.callWith_F0 ⟨_, _, _, _, of1⟩ ?_; have un : Un (frs X.stack) [] H H1 s.heap z1.heap := I1.base
  have bindsTo : ∀ {M : Model} {A' : Around} {Qb : List (Str × Value) → Shared → Prop} {Eb : Value → Shared → Prop}, (∀ binds : List (Str × Value), (∀ y ∈ binds, scope.names.lookup y.1 = some .local) → Qb binds z1) → wpAny M A' (bindArgs (laFn (X.env.qual ++ "<lambda>") params body scope (cloFrom X.env.cells scope.names []) pm dv (.ref c') ctv) ⟨[], []⟩) Qb Eb z1 := fun {M A' Qb Eb} hq => by
    rcases hD with ⟨e1, e2⟩ | ⟨T, v, e1, e2, e3⟩
    · subst e2
      rw [hds e1]
      exact wpAny_pure (hq [] fun y hy => nomatch hy)
    · subst e2
      rcases hbind with ⟨z, _⟩ | ⟨x, hx, hb⟩
      · rw [e1] at z
        cases z
      · obtain ⟨_, its, rits, o, ho, _, n, hdat⟩ := I1.hok T _ e3
        obtain ⟨u, eu, ru⟩ := rits.one
        obtain ⟨kk, k1, k2⟩ := hb (X.env.qual ++ "<lambda>") (cloFrom X.env.cells scope.names []) pm (.ref c') ctv T u
        rw [k1]
        refine wpAny_bind (wpAny_seqItems ho hdat ?_)
        rw [eu]
        show wpAny _ _ (kk (some #[u])) _ _ _
        rw [k2]
        exact wpAny_pure (hq _ fun y hy => by rw [List.mem_singleton.mp hy]; exact hx)
  have rc : codeAny (model X.prog X.w) (X.A.deeper (envOfC qg sg s.heap.objs.size g cdg)) (.call (.ref f) ⟨[], []⟩) (CR (L2.CX X.prog X.w) (envOfC qg sg s.heap.objs.size g cdg :: X.stack) X.prog X.w H1 z1 Q E) z1 := by
    refine PySem.W.kla_callFunE hr.depth of1 rfl L.co L.gen rfl ⟨c', oc, vs, t, rfl, hoc, hdc, hvc⟩ (bindsTo fun binds hbs => wpAny_newFunctionEnv (fun y hy => (L.own y hy).1) hbs (fun h₁ hns hsb => ⟨I1.nolimit.fresh _ hsb, ?_⟩) L.kind)
    show codeAny _ _ (.expr body (lamEnv X scope z1.heap.objs.size f c')) _ _
    have kp : ∀ b o, z1.heap.get? b = some o → h₁.get? b = some o := fun b o e => hsb.extBut b o (Nat.ne_of_lt (Heap.lt_size e)) (Heap.get?_push_of_some _ e)
    have J : Inv (lamCx X (X.A.deeper (envOfC qg sg s.heap.objs.size g cdg)) (envOfC qg sg s.heap.objs.size g cdg :: X.stack) z1 H1 E scope f c') [] σ H1 { z1 with heap := h₁, toks := z1.toks + binds.length } := la_start I L I1.env0 hr.hd un hns kp
    refine PySem.W.kla_codeExpr (wpAny_mono ((hbody _ _ z1 H1 c' (hr.deeper _)).run [] _ _ H1 Q J ht) (fun v s' q => ?_) fun e s' q => q)
    obtain ⟨x', H', J', rv, q⟩ := q
    exact ⟨x', H', J'.os, J'.bare, J'.base, J'.hok, rv, q⟩
  have ps : Passes (L2.CX X.prog X.w) ((cxOf CXg X.prog X.w X.K X.mg X.base Ng qg sg g cdg X.A X.stack s H Eg).tr pn xe) E := passes_call tk hW
  refine wpAny_call (codeAny_mono rc fun r s' q => ?_)
  cases r with
  | error e => exact ps pinsZ σZ H1 z1 e s' I1 q
  | ok fl =>
    cases fl with
    | ret u => exact I1.after q
    | next => exact q.elim
    | brk => exact q.elim
    | cont => exact q.elim
end
end Cc

/-! An own error class called with a text that is made on the way. -/
namespace Cc
open PySem PySem.Spec PyProof.Rows L2
section
variable {X : Cx} {C : Addr} {bmB : List Value} {B newId initId : String} {x : Str} {e : Expr} {ta : TA} {p pos : Pos}
theorem pmk_any (F : ExcBaseFacts B newId initId bmB) (q : PySem.W.excIn X.K C bmB newId = true) (gC : X.mg x = some (.ref C)) (kC : PySem.W.keepIn X.K (.ref C) = true) (r : Raises X (.ref C)) (hg : Gl X x) (ha : PA X [e] ta)
    (hs : starEach [e] X.env = (false, eval e X.env) :: starEach [] X.env := by rfl) (hp : (backTo pos (starEach [] X.env)).any (·.1) = false := by rfl) (hdb : (x == ("__debug__" : Str)) = false := by decide) :
    PMk X (.Call (.Name x p) [e] [] pos) (fun σ H Q => ta σ H fun vs H1 => (∃ v, vs = [v]) ∧ Q (.ref C) none H1) := by
  intro pins s σ H Q I h
  refine wpAny_Call_Name_kw (ld_glob I hg gC ?_ hdb); refine PySem.W.callWith_K (h₀ := X.base) I.ok.mod.kin kC (thn (ha.run pos pins s σ H _ I h) fun us z1 ⟨vs, H1, I1, r1, ⟨v, ev⟩, q1⟩ => ⟨I1.kIn, ?_⟩) hs hp
  subst ev
  obtain ⟨u, rfl, ru⟩ := r1.one
  show wpAny _ _ (call (.ref C) [u]) _ _ _; obtain ⟨bm, N, nm, qn, bs, hd, sn, sub, ab, col, dd, k0, k1, k2, k3, k5, mN, hC, hN, hni, T⟩ := exc_obj I1.kIn q
  exact wpAny_call_exc_subT F T hC hN hni (fun h' a hm => mk_of I1 hm r q1 (I1.hok.gone hm.new)) (by show 1 ≤ sizeLine; decide)
end
/-- what is asked of an own error class that the program raises -/
structure Err (K : PySem.W.Frag) (mg : Str → Option Value) (x : Str) (C : Addr) : Prop where
  at_ : mg x = some (.ref C)
  (kp : PySem.W.keepIn K (.ref C) = true)
  ex : ∃ bmB B newId initId, ExcBaseFacts B newId initId bmB ∧ PySem.W.excIn K C bmB newId = true
  sub : PySem.W.subIn K (.ref C) (.type "BaseException") = some true
  ty : PySem.W.typeIn K (.ref C) = some (.type "type")
theorem log_small {i : Int} (h0 : -(2 ^ 64) < i) (h1 : i < 2 ^ 64) : i.natAbs.log2 < 1920 := by
  by_cases q : i.natAbs = 0
  · rw [q]
    decide
  · have h : i.natAbs < 2 ^ 64 := by omega
    exact Nat.lt_trans ((Nat.log2_lt q).mpr h) (by decide)
/-- a def of the module that may raise -/
structure DnX (P : Program) (w : World) (K : PySem.W.Frag) (mg : Str → Option Value) (base : Heap) (k : Nat) (x : Str) (f : Addr) (sp : Sp) : Prop where
  at_ : mg x = some (.ref f)
  kp : PySem.W.keepIn K (Value.ref f) = true
  ok : FnR P w K mg base (L2.CX P w) k f sp
/-- a block that is not reached -/
theorem pss_never {X : Cx} {rest : List Stmt} : PSs X rest (fun _ _ _ => False) := ⟨fun _ _ _ _ _ _ h => h.elim⟩
end Cc

/-! A comprehension whose element may raise: the exception goes on, the block's variables let go. -/
namespace Cc
open PySem PySem.Spec PyProof.Rows L2
open LamX
/-- what a block ends with; an exception flies on in the block's own frame -/
def blkEnd (M : Model) (A : Around) (E : Value → Shared → Prop) (Q : Value → Shared → Prop) (acc : Value) (ce : Env) : Result → Shared → Prop
  | .ok _, z => ∃ m, z.heap.Ns ce.locals m ∧ ∀ h', Heap.SameBut ce.locals z.heap h' → Q acc { z with heap := h' }
  | .error x, z => ∃ m, z.heap.Ns ce.locals m ∧ ∀ h', Heap.SameBut ce.locals z.heap h' → wpAny M A (passOn "comprehension.variables-let-go" x ce : Sem Value) (fun _ _ => False) E { z with heap := h' }
section
variable {M : Model} {A : Around} {E : Value → Shared → Prop} {z : Shared} {env : Env}
theorem wp_compR {e : Expr} {sc : Scope} {pos : Pos} {newAcc first : Sem Value} {g : Comprehension} {gs : List Comprehension} {cl : List (Str × Addr)} {Q : Value → Shared → Prop}
    (hcl : clausesOf e = g :: gs) (hs : ∀ x, foldedSetIterable g.iter env x = pure x) (hclos : closureFor sc env = pure cl) (hk : sc.kind = .function) (hn : ∀ x ∈ sc.names, x.2 = .local → sc.names.lookup x.1 = some .local)
    (h : wpAny M A first (fun x z1 => wpAny M A (pyIter x) (fun it z2 => wpAny M A newAcc (fun acc z3 => wpAny M A (newFunctionEnv sc env.globals cl [] env.qual none .none (some env)) (fun ce z4 =>
      codeAny M A (.compStart e 0 it acc { ce with scope := relabel sc env }) (blkEnd M A E Q acc { ce with scope := relabel sc env }) z4) E z3) E z2) E z1) E z) :
    wpAny M A (comprehension e sc env pos newAcc false first none) Q E z := by
  unfold comprehension
  rw [hclos, hcl]
  refine wpAny_bind (wpAny_mono h (fun x z1 h1 => wpAny_bind (wpAny_standAt (wpAny_bind (wpAny_of_eq (hs x) (wpAny_bind (wpAny_holding (wpAny_mono h1 (fun it z2 h2 => ?_) fun _ _ q => q))))))) fun _ _ q => q)
  refine wpAny_standIf (wpAny_bind (wpAny_mono h2 (fun acc z3 h3 => wpAny_bind (wpAny_pure (wpAny_bind (wpAny_mono h3 (fun ce z4 h4 => ?_) fun _ _ q => q)))) fun _ _ q => q))
  dsimp only
  have hv : ∀ x ∈ (sc.names.filter fun x => (x.2 == .local || x.2 == .cell) && x.1 != (".0" : Str)).reverse, x.2 = .local → Env.kindOf { ce with scope := relabel sc env } x.1 = some .local :=
    fun x hx hl => lookup_relabel_local (hn x (List.mem_filter.mp (List.mem_reverse.mp hx)).1 hl)
  refine wpAny_holding (wpAny_bind (wpAny_attempt (wpAny_holding (wpAny_run (codeAny_mono h4 fun r z5 hr => ?_)))))
  cases r with
  | ok f =>
    obtain ⟨m, hm, hr⟩ := hr
    exact wpAny_bind (wpAny_holding (wpAny_comp_letGo (cenv := { ce with scope := relabel sc env }) hk _ z5 m hv hm fun h' m' _ sb => wpAny_pure (hr h' sb)))
  | error x =>
    obtain ⟨m, hm, hr⟩ := hr
    exact wpAny_bind (wpAny_holding (wpAny_comp_letGo (cenv := { ce with scope := relabel sc env }) hk _ z5 m hv hm fun h' m' _ sb => wpAny_mono (hr h' sb) (fun _ _ q => q.elim) fun _ _ q => q))
end
theorem note_env {x : Value} {e1 e2 : Env} (h : e1.frame = e2.frame) : noteFrame x e1 = noteFrame x e2 := by
  unfold noteFrame PySem.frameOf
  rw [h]
section
variable {M : Model} {A : Around} {E : Value → Shared → Prop} {z : Shared} {Z : Obj → Prop} {B : Heap} {env : Env} {outer : List Env} {L L' e : Addr}
/-- noted by another frame, of the same stack -/
theorem looks_heldZ {Q : Unit → Shared → Prop} (hZ : HandSPX.Steady Z) (hfr : A.frames = some (env :: outer)) (hf : env.frame = some L) (ne : L' ≠ L) (hh : HandSPX.HeldZ B (env :: outer) e Z L' z.heap)
    (hQ : ∀ h', HandSPX.HeldZ B (env :: outer) e Z L h' → z.heap.UpToSlots h' → Q () { z with heap := h' }) : wpAny M A (noteFrame (.ref e) env) Q E z := by
  obtain ⟨kb, en, fl, oe, vs, T, oT, ts, he, hz, hd, h1, nT, Te, hT, dT, h3⟩ := hh
  unfold noteFrame
  simp only [hf]
  refine wpAny_bind (wpAny_field he hd h1 ?_); rw [if_pos (show (Value.ref T != Value.none) = true from by simp)]
  refine wpAny_bind (wpAny_field hT dT h3 ?_)
  rw [if_neg (show ¬ ((rawInt L' == rawInt L) = true) from fun q => ne (Int.ofNat.inj (by simpa [rawInt] using q)))]
  refine wpAny_bind (wpAny_setField hT dT (Array.getElem?_eq_some_iff.mp h3).1 ?_)
  have oth : ∀ b, b ≠ T → (z.heap.update T (Obj.mapFields (·.setIfInBounds 3 Value.none))).get? b = z.heap.get? b := fun b hb => Heap.get?_update_other _ _ (Ne.symm hb)
  have nr : ∀ b o, z.heap.get? b = some o → (∀ vs, o.data ≠ .fields vs) → b ≠ T := fun b o hb nf q => by
    rw [q, hT] at hb; injection hb with hb; subst hb; exact nf ts dT
  refine HandSPX.wpAny_entryZ hZ hfr (fl.of_keeps fun b o hb nf => ⟨o, (oth b (nr b o hb nf)).trans hb, rfl⟩) hf ((oth e (Ne.symm Te)).trans he)
    (fun b o hbo => (oth b fun q => by rw [q, nT] at hbo; cases hbo).trans (kb b o hbo)) en hd (Array.getElem?_eq_some_iff.mp h1).1 hz fun h' hN => ?_
  obtain ⟨x1, x2, x3, x4⟩ := hN
  exact hQ h' ⟨x1, en, x2, x3⟩ fun b o hb nf => x4 b o ((oth b (nr b o hb nf)).trans hb) nf
end
theorem funFrames_at {h h' B B' : Heap} : ∀ {l : List Env}, h.FunFrames B l → (∀ b ∈ frs l, h'.get? b = h.get? b) → (∀ b ∈ frs l, B'.get? b = none) → h'.FunFrames B' l
  | [], _, _, _ => trivial
  | env :: l, ⟨hk, ⟨L, o, hf, _, ho, hd⟩, hr⟩, k, n =>
    have m : L ∈ frs (env :: l) := List.mem_filterMap.mpr ⟨env, List.mem_cons_self, hf⟩
    have up : ∀ b ∈ frs l, b ∈ frs (env :: l) := fun b hb => by
      obtain ⟨e, he, q⟩ := List.mem_filterMap.mp hb; exact List.mem_filterMap.mpr ⟨e, List.mem_cons_of_mem _ he, q⟩
    ⟨hk, ⟨L, o, hf, n L m, (k L m).trans ho, hd⟩, funFrames_at hr (fun b hb => k b (up b hb)) fun b hb => n b (up b hb)⟩
section
variable {X : Cx}
/-- an exception in a block's air is, the block left, one in the air around it -/
theorem blk_air {z3 : Shared} {G3 : Hp} {sc : Scope} {ce : Env} {fp : List Addr} {pz : List (Addr × Obj)} {sg : L2.St} {W : WX} {Q : Value → Shared → Prop} {acc : Value}
    (hs : X.stack = X.env :: X.outer) (hf : X.env.frame = some X.env.locals) (hcf : ce.frame = X.env.frame) (tk : L2.Takes X W) (K3 : Inv X pz sg G3 z3) (f3 : ∀ b ∈ fp, FpOk X pz G3 b) (lc : ce.locals = z3.heap.objs.size) :
    L2.Takes ((X.blk z3 G3 sc ce fp).wish (notedBy (model X.prog X.w) X.A ce fun x s' => blkEnd (model X.prog X.w) X.A X.xe Q acc ce (.error x) s')) (fun cls d _ H => W cls d sg H) := by
  rintro u s' ⟨a, B, sI, pn, sg', H', cls, d, rfl, J', nb, up, sky, na, os, ag, w⟩
  have J : Inv (X.blk z3 G3 sc ce fp) pn sg' H' sI := J'.unwish
  have nb : ∀ b o, sI.heap.get? b = some o → b ∉ frs X.stack → B.get? b = some o := nb
  have w : W cls d sg H' := w
  show wpAny _ X.A (noteFrame (.ref a) ce) _ _ _
  rw [note_env hcf]
  have hfr : X.A.frames = some (X.env :: X.outer) := by rw [K3.ok.frames, hs]
  have sky' : Sky B (X.env :: X.outer) a (Zc cls d) ce.locals s'.heap := by rw [← hs]; exact sky
  have nC : ce.locals ≠ X.env.locals := by rw [lc]; exact Nat.ne_of_gt K3.lt
  have nfC : ce.locals ∉ frs X.stack := fun hm => by
    obtain ⟨_, o, e, _⟩ := K3.stack.mem hm
    have := Heap.lt_size e
    rw [lc] at this
    exact absurd this (Nat.lt_irrefl _)
  have fin : ∀ h1, HandSPX.HeldZ B (X.env :: X.outer) a (Zc cls d) X.env.locals h1 → s'.heap.UpToSlots h1 → blkEnd (model X.prog X.w) X.A X.xe Q acc ce (.error (.ref a)) { s' with heap := h1 } := by
    intro h1 hh up1
    have J3 : Inv (X.blk z3 G3 sc ce fp) pn sg' H' { s' with heap := h1 } := J.landed nb hh.1 (up.trans up1) os ag
    obtain ⟨m, hm, _⟩ := J3.loc
    obtain ⟨mI, hmI, _⟩ := J.loc
    have hmI : sI.heap.Ns ce.locals mI := hmI
    obtain ⟨oC, _, _, eC, _⟩ := id hmI
    have BC := nb _ _ eC nfC
    refine ⟨m, hm, fun h' sb => ?_⟩
    have sb : Heap.SameBut ce.locals h1 h' := sb
    obtain ⟨k1, k2, k3, oe, vs, T, oT, ts, he, hz, hd, e1, nT, Te, hT, dT, e3⟩ := hh
    have aC : a ≠ ce.locals := fun q => by rw [q, BC] at k2; cases k2
    have TC : T ≠ ce.locals := fun q => by rw [q, BC] at nT; cases nT
    have he' : h'.get? a = some oe := (sb.2 a aC).trans he
    have hB : ∀ b o, (PySem.W.hideAll B [ce.locals]).get? b = some o → b ≠ ce.locals := fun b o e q => by
      rw [q, PySem.W.hideAll_none _ (by simp)] at e; cases e
    have nB : ∀ b, B.get? b = none → (PySem.W.hideAll B [ce.locals]).get? b = none := fun b n => by
      cases q : (PySem.W.hideAll B [ce.locals]).get? b with
      | none => rfl
      | some o =>
        have y := PySem.W.of_hideAll _ q
        rw [n] at y; cases y
    have sky2 : HandSPX.HeldZ (PySem.W.hideAll B [ce.locals]) (X.env :: X.outer) a (Zc cls d) X.env.locals h' :=
      ⟨fun b o e => (sb.2 b (hB b o e)).trans (k1 b o (PySem.W.of_hideAll _ e)), nB _ k2,
        funFrames_at k3 (fun b hb => sb.2 b fun q => nfC (by rw [hs, ← q]; exact hb)) (fun b hb => nB _ (k3.mem hb).1),
        oe, vs, T, oT, ts, he', hz, hd, e1, nB _ nT, Te, (sb.2 T TC).trans hT, dT, e3⟩
    have K7 : Inv X pz sg H' sI := K3.call' (ch := fp) J.os J.base J.hok J.bare fun b hb => ⟨(f3 b hb).2.2.2.1, (f3 b hb).2.1, (f3 b hb).2.2.2.2.1, (f3 b hb).2.2.2.2.2⟩
    have fC : FpOk X pz H' z3.heap.objs.size := K3.fpOk (Nat.le_refl _) (lc ▸ (show H' ce.locals = none from J.free))
    rw [← lc] at fC
    obtain ⟨a0, a1, _, a3, a4, a5⟩ := fC
    have I2 : Inv X pz sg H' { sI with heap := PySem.W.hideAll sI.heap [ce.locals], toks := sI.toks } := K7.turned (fun b o hb e => PySem.W.hideAll_get _ e (by simp [hb])) a0 a1 a3 a4 a5
    have upA : (PySem.W.hideAll sI.heap [ce.locals]).UpToSlots h' := fun b o e nf => by
      have bC : b ≠ ce.locals := fun q => by
        rw [q, PySem.W.hideAll_none _ (by simp)] at e; cases e
      obtain ⟨sl, q⟩ := (up.trans up1) b o (PySem.W.of_hideAll _ e) nf
      exact ⟨sl, (sb.2 b bC).trans q⟩
    have last : wpAny (model X.prog X.w) X.A (setFlight (.ref a) ce.frame) (fun _ s4 => wpAny (model X.prog X.w) X.A (throw (.ref a) : Sem Value) (fun _ _ => False) X.xe s4) X.xe { s' with heap := h' } := by
      rw [hcf, hf]
      refine HandSPX.setFlight_onZ sky2 fun h4 hh4 up4 => wpAny_throw (tk _ _ ?_)
      exact ⟨a, PySem.W.hideAll B [ce.locals], _, pz, sg, H', cls, d, rfl, I2, fun b o e hb => PySem.W.hideAll_get _ (nb b o (PySem.W.of_hideAll _ e) hb) (by
        intro q
        have q : b = ce.locals := by simpa using q
        rw [q, PySem.W.hideAll_none _ (by simp)] at e; cases e), upA.trans up4, .inr (.inr (by rw [hs]; exact hh4)), na, os, ag, w⟩
    unfold PySem.passOn
    refine wpAny_bind (wpAny_field he' hd e1 ?_); rw [if_neg (show ¬ ((Value.ref T == Value.none) = true) from by simp)]
    first
      | exact wpAny_bind (wpAny_pure (wpAny_bind last))
      | exact wpAny_bind last
  rcases sky' with ⟨kB, hn, fl, oe, vs, he, hz, hd, e1⟩ | fl | hh
  · exact HandSPX.look_newZ Zc.steady hfr fl hf he kB hn hd e1 hz fin
  · (exact HandSPX.looks_onZ Zc.steady hfr hf fl fin)
  · exact looks_heldZ Zc.steady hfr hf nC hh fin
end
end Cc

/-! [.. for ..] whose element may raise (one clause). -/
namespace Cc
open PySem PySem.Spec PyProof.Rows L2
open LamX
section
variable {X : Cx}
theorem pe_lcX {el ta ia : Expr} {fs : List Expr} {sc : Scope} {own : List (Str × Nat)} {ps : Pos} {wi : TI} {g : TG} {tt : TT} {te : WX → L2.St → TE} {Wx : WX} (hc : X.calm = true) (hN : X.N.Nodup) (hst : X.stack = X.env :: X.outer) (hf : X.env.frame = some X.env.locals) (tk : L2.Takes X Wx)
    (hi : PI X ta ia wi) (ok : BlkOk X.N X.env.scope sc own)
    (hg : ∀ (s : Shared) (H : Hp) (C : Addr) (cl : List (Str × Addr)) (fp : List Addr), PG (X.blk s H sc (compEnvC sc cl C X.env) fp) ta g)
    (ht : ∀ (s : Shared) (H : Hp) (C : Addr) (cl : List (Str × Addr)) (fp : List Addr), PTs (X.blk s H sc (compEnvC sc cl C X.env) fp) fs tt)
    (he : ∀ (pins : List (Addr × Obj)) (σ : L2.St) (s : Shared) (H : Hp) (C : Addr) (cl : List (Str × Addr)) (fp : List Addr) (xe : Value → Shared → Prop), Inv X pins σ H s → (∀ b ∈ fp, FpOk X pins H b) →
      L2.Takes ((X.blk s H sc (compEnvC sc cl C X.env) fp).wish xe) (fun cls d _ G => Wx cls d σ G) → PE ((X.blk s H sc (compEnvC sc cl C X.env) fp).wish xe) el (te (fun cls d _ G => Wx cls d σ G) σ))
    (hs : ∀ x, foldedSetIterable ia X.env x = pure x := by intro _; rfl) :
    PE X (.ListComp el [⟨ta, ia, fs, 0⟩] sc ps) (fun σ H Q => tLc wi g tt (te (fun cls d _ G => Wx cls d σ G) σ) (own.map (·.2)) σ H Q) := by
  refine ⟨fun pz z0 sg G0 Qq K0 h => ?_⟩
  rw [eval_ListComp]
  have frees : ∀ y ∈ sc.names, y.2 = .free → ∃ c, X.env.cells.lookup y.1 = some c := fun y hy e => K0.ok.has _ (ok.free y hy e)
  refine wp_compR rfl hs (closure_ok frees) ok.kind (fun y hy e => (ok.uniq y hy).trans (congrArg some e)) (thn (hi.run pz z0 sg G0 _ K0 h) fun _ z1 h1 => thn h1 fun iv z2 h2 => ?_)
  obtain ⟨it, fp, tn, Jt, G2, rfl, K2, T, t2, f2, q⟩ := h2
  refine wpAny_newObj_type (newEnv_comp ?_) (by show 0 ≤ sizeLine; decide); obtain ⟨D, hD⟩ : ∃ D, D = z2.heap.objs.size := ⟨_, rfl⟩
  rw [← hD]
  have freeD : G2 D = none := K2.hok.fresh (Nat.le_of_eq hD.symm)
  obtain ⟨W, ⟨m0, w0⟩, turn⟩ := q D freeD
  obtain ⟨z3, hz3⟩ : ∃ z3 : Shared, z3 = { z2 with heap := z2.heap.push { cls := .type "list", data := .seq ([] : List Value).toArray } } := ⟨_, rfl⟩
  have p3 : z3.heap = z2.heap.push { cls := .type "list", data := .seq ([] : List Value).toArray } := by rw [hz3]
  have keep3 : ∀ b o, z2.heap.get? b = some o → z3.heap.get? b = some o := fun b o e => by
    rw [p3]
    exact Heap.get?_push_of_some (h := z2.heap) _ e
  have K3 : Inv X pz sg (upd G2 D (.lst [])) z3 := by
    rw [hz3]
    refine K2.laid (t' := z2.toks) (fun b o e => Heap.get?_push_of_some _ e) (Nat.le_of_eq hD.symm) ⟨Nat.zero_le _, [], 0, .nil, ?_⟩
    rw [hD]
    exact Heap.get?_push_size z2.heap rfl
  have old : ∀ b ∈ fp, b < z2.heap.objs.size := fun b hb => (T.obj _ _ t2 b hb).elim fun _ e => Heap.lt_size e.1
  have f3 : ∀ b ∈ fp, FpOk X pz (upd G2 D (.lst [])) b ∧ b < z3.heap.objs.size := fun b hb =>
    ⟨⟨by rw [upd_ne (by rw [hD]; exact Nat.ne_of_lt (old b hb))]; exact (f2 b hb).1, (f2 b hb).2⟩, by rw [p3, Heap.size_push]; exact Nat.lt_succ_of_lt (old b hb)⟩
  have K4 := block_start K3 ok hN f3
  have Bg := hg z3 (upd G2 D (.lst [])) z3.heap.objs.size (cellsFrom (z3.heap.objs.size + 1) sc.names (cloFrom X.env.cells sc.names [])) fp
  have Bt := ht z3 (upd G2 D (.lst [])) z3.heap.objs.size (cellsFrom (z3.heap.objs.size + 1) sc.names (cloFrom X.env.cells sc.names [])) fp
  have Be := fun xe => he pz sg z3 (upd G2 D (.lst [])) z3.heap.objs.size (cellsFrom (z3.heap.objs.size + 1) sc.names (cloFrom X.env.cells sc.names [])) fp xe K3 fun b hb => (f3 b hb).1
  have goal : codeAny (model X.prog X.w) X.A (.compStart (.ListComp el [⟨ta, ia, fs, 0⟩] sc ps) 0 (.ref it) (.ref D) (compEnvC sc (cellsFrom (z3.heap.objs.size + 1) sc.names (cloFrom X.env.cells sc.names [])) z3.heap.objs.size X.env))
      (blkEnd (model X.prog X.w) X.A X.xe (EP X pz sg Qq) (.ref D) (compEnvC sc (cellsFrom (z3.heap.objs.size + 1) sc.names (cloFrom X.env.cells sc.names [])) z3.heap.objs.size X.env)) { z3 with heap := pushCells (z3.heap.push { cls := .type "dict", data := .dict #[] }) sc.names } := by
    obtain ⟨ce, hce⟩ : ∃ ce, ce = compEnvC sc (cellsFrom (z3.heap.objs.size + 1) sc.names (cloFrom X.env.cells sc.names [])) z3.heap.objs.size X.env := ⟨_, rfl⟩
    rw [← hce] at K4 Bg Bt Be ⊢
    have lc : ce.locals = z3.heap.objs.size := by rw [hce]; rfl
    have hcf : ce.frame = X.env.frame := by rw [hce]; rfl
    obtain ⟨G3, hG3⟩ : ∃ G3, G3 = upd G2 D (.lst []) := ⟨_, rfl⟩
    rw [← hG3] at K3 K4 Bg Bt Be w0 f3
    have nf3 : ∀ b ∈ fp, G3 b = none := fun b hb => (f3 b hb).1.1
    have air := blk_air (sc := sc) (Q := EP X pz sg Qq) (acc := .ref D) hst hf hcf tk K3 (fun b hb => (f3 b hb).1) lc
    have Be := Be _ air
    obtain ⟨z4, hz4⟩ : ∃ z4 : Shared, z4 = { z3 with heap := pushCells (z3.heap.push { cls := .type "dict", data := .dict #[] }) sc.names } := ⟨_, rfl⟩
    rw [← hz4] at K4 ⊢
    have t4 : tn 0 z4.heap := T.keep _ _ _ t2 fun b _ o e => by
      rw [hz4]
      exact pushCells_keeps _ _ _ _ (Heap.get?_push_of_some _ (keep3 b o e))
    have fpk : ∀ {sg' : L2.St} {G' : Hp} {z' : Shared}, Inv (X.blk z3 G3 sc ce fp) [] sg' G' z' → (∀ b ∈ fp, G' b = none) → ∀ b ∈ fp, FpOk (X.blk z3 G3 sc ce fp) [] G' b := fun Kk hn b hb =>
      ⟨hn b hb, (Kk.ok.exf b hb).1, Kk.ok.exfs b hb, .inl hb, fun x c e => (Kk.ok.exf b hb).2 x c e, fun p hp => by simp at hp⟩
    have loop : codeAny (model X.prog X.w) X.A (.compLoop (.ListComp el [⟨ta, ia, fs, 0⟩] sc ps) 0 (.ref it) (.ref D) ce) (blkEnd (model X.prog X.w) X.A X.xe (EP X pz sg Qq) (.ref D) ce) z4 := by
      refine compLoop_any (fun n z => ∃ i G, Inv (X.blk z3 G3 sc ce fp) [] (wipe sg (own.map (·.2))) G z ∧ tn i z.heap ∧ (∀ b ∈ fp, G b = none) ∧ W i n G) ?_ m0 ⟨0, G3, K4, t4, nf3, w0⟩
      rintro n z5 ⟨i, G5, K5, t5, n5, w5⟩
      rcases turn i n G5 w5 with ⟨halt, qq⟩ | ⟨go, Nx, hNx, step⟩
      · refine thnF (T.done (X.blk z3 G3 sc ce fp) rfl rfl rfl hc i [] z5 _ G5 (fun _ _ => False) K5 (fpk K5 n5) t5 halt) fun r z6 ⟨hr, K6⟩ => ?_
        subst hr
        have K7 : Inv X pz sg G5 z6 := K3.call' (ch := fp) K6.os K6.base K6.hok K6.bare fun b hb => ⟨(f3 b hb).1.2.2.2.1, (f3 b hb).1.2.1, (f3 b hb).1.2.2.2.2.1, (f3 b hb).1.2.2.2.2.2⟩
        have nC : G5 z3.heap.objs.size = none := lc ▸ (show G5 ce.locals = none from K6.free)
        obtain ⟨m, hm, _⟩ := K6.loc
        have ff := K3.fpOk (Nat.le_refl _) nC
        rw [← lc] at ff
        refine ⟨m, hm, fun h'' sb => ?_⟩
        obtain ⟨a0, a1, _, a3, a4, a5⟩ := ff
        exact ⟨.ref D, G5, K7.turned (t' := z6.toks) (fun b o hb e => (sb.2 b hb).trans e) a0 a1 a3 a4 a5, rfl, qq⟩
      · refine thnF (T.item (X.blk z3 G3 sc ce fp) rfl rfl rfl hc i [] z5 _ G5 (fun _ _ => False) K5 (fpk K5 n5) t5 go) fun r z6 ⟨u, hr, h6⟩ => ?_
        subst hr
        refine thnF h6 fun _ z7 ⟨x, G7, K7, r7, y7, t7, n7⟩ => ?_
        refine thnF (Bg.run _ z7 _ G7 x u _ (K7.pinned (fpk K7 n7) (T.obj _ _ t7)) r7 (step x G7 y7)) fun _ z8 ⟨sg8, G8, K8, w8, q8⟩ => ?_
        refine thnF (Bt.run _ z8 sg8 G8 _ K8 q8) fun b z9 ⟨G9, K9, q9⟩ => ?_
        have fin : ∀ {z' : Shared} {G' : Hp}, Inv (X.blk z3 G3 sc ce fp) ([] ++ pinsAt fp z7.heap) sg8 G' z' → Nx G' → ∃ m, m < n ∧ ∃ i G, Inv (X.blk z3 G3 sc ce fp) [] (wipe sg (own.map (·.2))) G z' ∧ tn i z'.heap ∧ (∀ b ∈ fp, G b = none) ∧ W i m G := fun {z' G'} Kk nx => by
          obtain ⟨m', lt, w'⟩ := hNx G' nx
          have pin : ∀ b ∈ fp, ∀ o, z7.heap.get? b = some o → z'.heap.get? b = some o ∧ G' b = none := fun b hb o e =>
            let y := Kk.pin (b, o) (List.mem_append_right _ (List.mem_append_right _ (mem_pinsAt hb e)))
            ⟨y.1, y.2.1⟩
          refine ⟨m', lt, i + 1, G', (Kk.unpinned (pins := [])).weak (by rw [← w8, wipe_length]) (fun j v e => by rw [← w8] at e; exact (wipe_some e).1), T.keep _ _ _ t7 fun b hb o e => (pin b hb o e).1, fun b hb => ?_, w'⟩
          obtain ⟨o, e, _⟩ := T.obj _ _ t7 b hb
          exact (pin b hb o e).2
        cases b with
        | false =>
          simp only [Bool.false_eq_true, if_false] at q9 ⊢; exact fin K9 q9
        | true =>
          simp only [if_true] at q9 ⊢
          refine thn (Be.run _ z9 sg8 G9 _ (K9.wish _) q9) fun v z10 ⟨y, G10, K10, r10, acc, eD, room, nx⟩ => ?_
          exact app_ok (X := X.blk z3 G3 sc ce fp) K10.unwish eD room r10 fun z11 K11 => fin K11 nx
    exact codeAny_compStart_list loop (T.self X.A 0 _ _ _ t4 loop)
  exact hz3 ▸ goal
end
end Cc

/-! try: .. except C: statement; raise -/
namespace Cc
open PySem PySem.Spec PyProof.Rows L2
open LamX
section
variable {X : Cx} {σ : L2.St} {H : Hp} {s : Shared} {pins : List (Addr × Obj)}
/-- untracked objects that were not there at the entry are taken away -/
theorem inv_hide {ch : List Addr} (I : Inv X pins σ H s) (h0 : ∀ b ∈ ch, X.s_0.heap.get? b = none) (hL : ∀ b ∈ ch, b ≠ X.env.locals) (hC : ∀ b ∈ ch, ∀ x c, X.env.cells.lookup x = some c → c ≠ b)
    (hP : ∀ b ∈ ch, ∀ p ∈ X.pn ++ pins, p.1 ≠ b) (hn : ∀ b ∈ ch, H b = none) : Inv X pins σ H { s with heap := PySem.W.hideAll s.heap ch } := by
  have stays : ∀ {b o}, b ∉ ch → s.heap.get? b = some o → (PySem.W.hideAll s.heap ch).get? b = some o := fun n e => PySem.W.hideAll_get _ e n
  have early : ∀ {b o}, X.s_0.heap.get? b = some o → b ∉ ch := fun e m => nomatch (h0 _ m).symm.trans e
  have boxes : ∀ {y k v}, X.env.cells.lookup y = some k → s.heap.IsCell k v → (PySem.W.hideAll s.heap ch).IsCell k v := fun e ⟨o, ho, hd⟩ => ⟨o, stays (fun m => hC _ m _ _ e rfl) ho, hd⟩
  have told : ∀ {k v}, H k = some v → k ∉ ch := fun e m => nomatch (hn _ m).symm.trans e
  refine ⟨I.ok, I.os, I.bare, ⟨fun b o e n f y => stays (early e) (I.base.keep b o e n f y), fun b o e n f y => (I.base.slot b o e n f y).imp fun _ q => stays (early e) q, I.base.free, fun b o e y => (I.base.there b o e y).imp fun _ q => stays (early e) q, I.base.tups, I.base.frzs, I.base.tbls⟩,
    I.loc.imp fun m h => ⟨h.1.imp fun o h1 => h1.imp fun es h2 => h2.imp fun ep h3 => ⟨stays (fun m2 => hL _ m2 rfl) h3.1, h3.2⟩, fun k y v e1 e2 e3 => (h.2 k y v e1 e2 e3).imp fun u hu => ⟨hu.1, hu.2.imp id fun w => ⟨w.1, w.2.imp fun _ w => ⟨w.1, boxes w.1 w.2⟩⟩⟩⟩,
    fun y k e => (I.cell y k e).imp fun _ => boxes e, I.free, I.freeC, fun p hp => ⟨stays (fun m => hP _ m p hp rfl) (I.pin p hp).1, (I.pin p hp).2⟩,
    fun b u e => (I.hok b u e).stay (fun k v hk q => stays (hk.elim (fun z => z ▸ told e) fun z => told z) q) (fun _ q => q) fun _ _ q => q, I.len⟩
/-- one more that is pinned -/
theorem inv_morePin {T : Addr} {oT : Obj} {ts : Array Value} (I : Inv X pins σ H s) (hT : s.heap.get? T = some oT) (dT : oT.data = .fields ts) (nT : H T = none) (nL : T ≠ X.env.locals) (nF : T ∉ X.fs) : Inv X (pins ++ [(T, oT)]) σ H s :=
  ⟨I.ok, I.os, I.bare, I.base, I.loc, I.cell, I.free, I.freeC, fun p hp => (List.append_assoc X.pn pins [(T, oT)] ▸ hp : p ∈ (X.pn ++ pins) ++ [(T, oT)]) |> fun m => (List.mem_append.mp m).elim (I.pin p) fun m => by
    obtain rfl := List.mem_singleton.mp m
    exact ⟨hT, nT, nL, nF, fun v z => nomatch dT.symm.trans z⟩, I.hok, I.len⟩
theorem inv_lessPin {q : List (Addr × Obj)} (I : Inv X (pins ++ q) σ H s) : Inv X pins σ H s :=
  ⟨I.ok, I.os, I.bare, I.base, I.loc, I.cell, I.free, I.freeC, fun p hp => I.pin p (List.append_assoc X.pn pins q ▸ List.mem_append_left q hp), I.hok, I.len⟩
end
/-- a statement's ends where it must go on -/
def goesOn (Q : L2.St → Hp → Prop) : Ends := { nx := Q, rt := fun _ _ => False }
/-- what 'except C: statement; raise' wishes of an exception of the body -/
def wAgain (K : PySem.W.Frag) (c : Value) (ts : TS) (Wout : WX) : WX := fun cls d σ H =>
  ∃ b, PySem.W.exmOne K cls c = some b ∧ (b = true → ts (goesOn fun σ' H' => Wout cls d σ' H') σ H) ∧ (b = false → Wout cls d σ H)
section
variable {X : Cx} {B h3 : Heap} {a e : Addr} {x : Str} {c cls : Value} {d : Option Addr} {b : Bool} {np pos' : Pos} {b₀ : Stmt} {suite : List Stmt} {pins : List (Addr × Obj)} {σ' : L2.St} {H' : Hp} {z : Shared} {Z : Obj → Prop} {Q : Flow → Shared → Prop} {Wout : WX}
/-- what has fields is no frame at hand -/
theorem off_frames {h : Heap} {o : Obj} {vs : Array Value} (ff : h.FunFrames B (X.env :: X.outer)) (at_ : h.get? e = some o) (dd : o.data = .fields vs) : e ∉ frs (X.env :: X.outer) := fun m => by
  obtain ⟨_, _, q, n⟩ := ff.mem m
  cases at_.symm.trans q
  exact n vs dd
theorem off_locals (hf : X.env.frame = some X.env.locals) (n : e ∉ frs (X.env :: X.outer)) : e ≠ X.env.locals := fun q => n (q ▸ List.mem_filterMap.mpr ⟨_, .head _, hf⟩)
theorem off_outer (n : e ∉ frs (X.env :: X.outer)) : e ∉ X.fs := fun m => n ((List.mem_filterMap.mp m).elim fun y hy => List.mem_filterMap.mpr ⟨y, .tail _ hy.1, hy.2⟩)
/-- the exception at a is judged by one clause -/
theorem judged (hf : X.env.frame = some X.env.locals) (hc : Names X x c) (hpa : ∀ hd : Option Value, PassesOwnAt (model X.prog X.w) (X.A.mark hd) X.A X.env X.xe) (zc : ∀ o, Z o → Zc cls d o) (J : Inv X pins σ' H' { z with heap := h3 }) (fl : HandSPX.FlyingZ B (X.env :: X.outer) a Z h3) (na : H' a = none) (hb : PySem.W.exmOne X.K cls c = some b)
    (no : b = false → wpAny (model X.prog X.w) X.A (handleBy (.ref a) X.env []) Q X.xe { z with heap := h3 }) (yes : b = true → ∀ h4, HandSPX.FlyingZ B (X.env :: X.outer) a Z h4 → h3.UpToSlots h4 → wpAny (model X.prog X.w) (X.A.mark (some (.ref a))) (execs (b₀ :: suite) X.env) Q X.xe { z with heap := h4 }) :
    wpAny (model X.prog X.w) X.A (handleBy (.ref a) X.env [.ExceptHandler (some (.Name x np)) none (b₀ :: suite) pos']) Q X.xe { z with heap := h3 } := by
  obtain ⟨oe, vs, at_, hz, dd⟩ := fl.there
  have off := off_frames fl.2.2.1 at_ dd
  have S := J.suite at_ dd na (off_locals hf off) (off_outer off)
  have kind := PySem.W.exm_one (M := model X.prog X.w) J.kIn (e := a) (h := h3) (fun _ _ _ _ k q => wpAny_typeOf_ref (k _ _ at_) (by rw [(zc _ hz).1]; exact q)) hb
  have found : ∀ {R E : Value → Shared → Prop}, R c { z with heap := h3 } → wpAny (model X.prog X.w) (X.A.mark (some (.ref a))) (eval (.Name x np) X.env) R E { z with heap := h3 } := fun q => match hc with
    | ⟨g, n, .inl m⟩ => ld_glob (X := X.suite a ((a, oe) :: (X.pn ++ pins))) S g m q n
    | ⟨g, n, .inr ⟨m, v, w⟩⟩ => ld_blt (X := X.suite a ((a, oe) :: (X.pn ++ pins))) S g m v q w n
  refine wpAny_handleBy_cons (codeAny_handlers_test (found (kind.here ?_))) fun q => nomatch q
  cases b
  · exact no rfl
  · exact codeAny_handlers_suite (HandSPX.lands_againZ fl fun h4 f4 u4 => wpAny_mono (yes rfl h4 f4 u4) (fun _ _ q => q) (hpa (some (.ref a))))
/-- it goes on, as no clause takes it -/
theorem goes_out {sI : Shared} (hs : X.stack = X.env :: X.outer) (hf : X.env.frame = some X.env.locals) (tk : L2.Takes X Wout) (J : Inv X pins σ' H' sI) (nb : ∀ b o, sI.heap.get? b = some o → b ∉ frs X.stack → B.get? b = some o) (up : sI.heap.UpToSlots h3) (fl : HandSPX.FlyingZ B (X.env :: X.outer) a (Zc cls d) h3)
    (na : H' a = none) (os : z.os = sI.os) (ag : AllBare z.gens) (w : Wout cls d σ' H') : wpAny (model X.prog X.w) X.A (handleBy (.ref a) X.env []) Q X.xe { z with heap := h3 } := by
  have out : wpAny (model X.prog X.w) X.A (setFlight (.ref a) X.env.frame) (fun _ s4 => wpAny (model X.prog X.w) X.A (throw (.ref a) : Sem Flow) Q X.xe s4) X.xe { z with heap := h3 } :=
    hf ▸ HandSPX.setFlight_upZ fl fun h4 held u4 => wpAny_throw (tk _ _ ⟨a, B, sI, pins, σ', H', cls, d, rfl, J, nb, up.trans u4, .inr (.inr (hs ▸ held)), na, os, ag, w⟩)
  obtain ⟨_, _, _, oe, vs, T, _, _, at_, _, dd, tr, _⟩ := id fl
  refine wpAny_handleBy_nil ?_
  unfold PySem.passOn
  refine wpAny_bind (wpAny_field at_ dd tr ?_)
  have some_ : (Value.ref T == Value.none) = false := rfl
  simp only [some_, Bool.false_eq_true, if_false]
  first | exact wpAny_bind out | exact wpAny_bind (wpAny_pure (wpAny_bind out))
/-- raise, within a suite: the exception at a, whose trace stands at T, goes on -/
theorem raised_again {rp : Pos} {oe oT : Obj} {vs ts : Array Value} {T : Addr} {z6 : Shared} (hf : X.env.frame = some X.env.locals) (pa : z6.heap.get? a = some oe) (da : oe.data = .fields vs) (tr : vs[1]? = some (.ref T)) (pT : z6.heap.get? T = some oT) (dT : oT.data = .fields ts) (lt : 3 < ts.size)
    (k : X.xe (.ref a) { z6 with heap := z6.heap.update T (Obj.mapFields (·.setIfInBounds 3 (rawInt X.env.locals))) }) : wpAny (model X.prog X.w) (X.A.mark (some (.ref a))) (execs [.Raise none none rp] X.env) Q X.xe z6 := by
  have is_ : (Value.ref T == Value.none) = false := rfl
  have out : wpAny (model X.prog X.w) (X.A.mark (some (.ref a))) (setFlight (.ref a) (some X.env.locals)) (fun _ z7 => X.xe (.ref a) z7) X.xe z6 := by
    unfold setFlight
    refine wpAny_bind (wpAny_field pa da tr ?_)
    simp only [bne, is_, Bool.not_false, if_true]
    exact wpAny_setField pT dT lt k
  refine wpAny_execs_cons ?_
  rw [arm_exec_Raise]
  refine wpAny_bind (wpAny_standAt (show wpAny _ _ (raiseStmt X.env none none) _ _ _ from ?_))
  unfold raiseStmt
  dsimp only
  apply wpAny_bind; apply wpAny_handled
  (try dsimp only)
  refine wpAny_bind (wpAny_rule (wpAny_bind (wpAny_field pa da tr ?_)))
  simp only [is_, Bool.false_eq_true, if_false, hf]
  first | exact wpAny_bind (wpAny_mono out (fun _ _ => wpAny_throw) fun _ _ => id) | exact wpAny_bind (wpAny_pure (wpAny_bind (wpAny_mono out (fun _ _ => wpAny_throw) fun _ _ => id)))
end
section
variable {X : Cx} {x : Str} {c : Value} {body : List Stmt} {b₀ : Stmt} {np pos pos' rp : Pos} {tb : WX → TS} {ts : TS} {Wout : WX}
theorem ps_try_again (hs : X.stack = X.env :: X.outer) (hf : X.env.frame = some X.env.locals) (hex : X.ex = []) (hc : Names X x c) (hpa : ∀ hd : Option Value, PassesOwnAt (model X.prog X.w) (X.A.mark hd) X.A X.env X.xe) (tk : L2.Takes X Wout)
    (hb : ∀ (W : WX) (pn : List (Addr × Obj)) (xe : Value → Shared → Prop), L2N.Takes (X.tr pn xe) W → L2.Takes (X.tr pn xe) (L2H.wPass X.K c Wout) → PassesOwn (model X.prog X.w) X.A X.env xe → PSs (X.tr pn xe) body (tb W))
    (hsu : ∀ (a : Addr) (oe : Obj) (pn : List (Addr × Obj)), L2H.HotC (X.suite a ((a, oe) :: pn)) → PS (X.suite a ((a, oe) :: pn)) b₀ ts) :
    PS X (.Try body [.ExceptHandler (some (.Name x np)) none [b₀, .Raise none none rp] pos'] [] [] pos) (fun D σ H => tb (wAgain X.K c ts Wout) D σ H) := by
  refine ⟨fun pins z0 σ H D I h => wpAny_Try_except ?_⟩
  have ok := I.ok
  have hfr : X.A.frames = some (X.env :: X.outer) := ok.frames.trans (congrArg _ hs)
  refine wpAny_mono ((hb (wAgain X.K c ts Wout) (X.pn ++ pins) (fun e z1 => wpAny (model X.prog X.w) X.A (noteFrame e X.env) (fun _ z2 => wpAny (model X.prog X.w) X.A (setFlight e none) (fun _ z3 =>
    wpAny (model X.prog X.w) X.A (handleBy e X.env [.ExceptHandler (some (.Name x np)) none [b₀, .Raise none none rp] pos']) (SP X pins D) X.xe z3) X.xe z2) X.xe z1) (fun u z1 air => ?_) (fun u z1 air => ?_) PassesOwn.looking).run [] z0 σ H D (I.toTry _) h) (fun f z6 over => ?_) fun _ _ q => q
  · obtain ⟨a, B, sI, _, σ', H', cls, d, rfl, J', nb, up, sky, na, os, ag, b, hb1, hyes, hno⟩ := air
    have J := J'.ofTry ok
    have nb : ∀ b o, sI.heap.get? b = some o → b ∉ frs X.stack → B.get? b = some o := nb
    refine L2N.Sky.land L2N.Zn.steady hfr hf (hs ▸ sky : Sky B (X.env :: X.outer) a (L2N.Zn cls d) X.env.locals z1.heap) fun h3 fl up3 => ?_
    refine judged hf hc hpa (fun o q => q.zc) (J.landed nb fl.1 (up.trans up3) os ag) fl na hb1 (fun q => goes_out hs hf tk J nb (up.trans up3) (L2H.flyingZ_imp (fun o q => q.zc) fl) na os ag (hno q)) fun q h4 f4 up4 => ?_
    obtain ⟨_, freshA, k3, oe, vs, T, oT, tvs, at_, hz, da, tr, freshT, Te, atT, dT, e3⟩ := id f4
    have offA := off_frames k3 at_ da
    have offT := off_frames k3 atT dT
    have before : ∀ {y}, y ∉ frs (X.env :: X.outer) → B.get? y = none → sI.heap.get? y = none := fun {y} off fresh => by
      cases w : sI.heap.get? y with
      | none => rfl
      | some o => exact nomatch fresh.symm.trans (nb y o w (hs ▸ off))
    have sIa := before offA freshA
    have sIT := before offT freshT
    have J4 : Inv X pins σ' H' { z1 with heap := h4 } := J.landed nb f4.1 ((up.trans up3).trans up4) os ag
    have J5 := inv_morePin J4 atT dT (J.hok.gone sIT) (off_locals hf offT) (off_outer offT)
    refine wpAny_execs_cons (wpAny_mono ((hsu a oe (X.pn ++ (pins ++ [(T, oT)])) ⟨(a, oe), ⟨rfl, vs, da, hz.2.2 vs da⟩, List.mem_cons_self⟩).run [] _ _ H' _ (J5.suite at_ da na (off_locals hf offA) (off_outer offA)) (hyes q)) (fun f z6 over => ?_) fun _ _ w => w.elim)
    cases f with
    | brk => exact let ⟨_, _, _, w⟩ := over; w.elim
    | cont => exact let ⟨_, _, _, w⟩ := over; w.elim
    | ret u => exact let ⟨_, _, _, _, _, w⟩ := over; w.elim
    | next =>
      obtain ⟨σ6, H6, S6, w6⟩ := over
      obtain ⟨pa, na6, _⟩ := S6.pin (a, oe) (by simp)
      obtain ⟨pT, nT6, _⟩ := S6.pin (T, oT) (by simp)
      have I7 : Inv X pins σ6 H6 z6 := inv_lessPin (S6.unsuite ok)
      have two : ∀ y ∈ [a, T], sI.heap.get? y = none ∧ y ≠ X.env.locals ∧ H6 y = none := fun y hy => by
        rcases (by simpa using hy : y = a ∨ y = T) with w | w <;> subst w
        · exact ⟨sIa, off_locals hf offA, na6⟩
        · exact ⟨sIT, off_locals hf offT, nT6⟩
      have I8 : Inv X pins σ6 H6 { z6 with heap := PySem.W.hideAll z6.heap [a, T] } := by
        refine inv_hide I7 (fun y hy => ?_) (fun y hy => (two y hy).2.1) (fun y hy k cc e w => ?_) (fun y hy p hp w => ?_) fun y hy => (two y hy).2.2
        · cases w : X.s_0.heap.get? y with
          | none => rfl
          | some o => exact let ⟨_, w2⟩ := J.base.there y o w (hex ▸ List.not_mem_nil); nomatch (two y hy).1.symm.trans w2
        · obtain ⟨_, _, w2, _⟩ := J.cell k cc e
          rw [w] at w2
          exact nomatch (two y hy).1.symm.trans w2
        · have w2 := (J.pin p hp).1
          rw [w] at w2
          exact nomatch (two y hy).1.symm.trans w2
      have shown : ∀ {l : List Addr} {y : Addr} {o : Obj}, (PySem.W.hideAll z6.heap (a :: T :: l)).get? y = some o → y ≠ a ∧ y ≠ T ∧ z6.heap.get? y = some o := fun {l y o} e =>
        ⟨fun w => (by rw [w, PySem.W.hideAll_none _ (by simp)] at e; exact nomatch e), fun w => (by rw [w, PySem.W.hideAll_none _ (by simp)] at e; exact nomatch e), PySem.W.of_hideAll _ e⟩
      have lt : 3 < tvs.size := (Array.getElem?_eq_some_iff.mp e3).1
      have same : ∀ y, y ≠ T → (z6.heap.update T (Obj.mapFields (·.setIfInBounds 3 (rawInt X.env.locals)))).get? y = z6.heap.get? y := fun y hy => Heap.get?_update_other _ _ (Ne.symm hy)
      refine raised_again hf pa da tr pT dT lt (tk _ _ ⟨a, PySem.W.hideAll z6.heap (a :: T :: frs X.stack), _, pins, σ6, H6, cls, d, rfl, I8, fun y o e hy => ?_, fun y o e nf => ⟨o.slots, ?_⟩, .inr (.inr ⟨fun y o e => ?_, PySem.W.hideAll_none _ (by simp), ?_, ?_⟩), na6, rfl, I7.bare, w6⟩)
      · exact let ⟨y1, y2, y3⟩ := shown e; PySem.W.hideAll_get _ y3 (by simp [y1, y2, hy])
      · exact let ⟨_, y2, y3⟩ := shown e; (same y y2).trans y3
      · exact let ⟨_, y2, y3⟩ := shown e; (same y y2).trans y3
      · exact funFrames_at I7.stack (fun y hy => same y fun w => offT (hs ▸ w ▸ hy)) fun y hy => PySem.W.hideAll_none _ (by simp [hy])
      · exact ⟨oe, vs, T, _, _, (same a (Ne.symm Te)).trans pa, hz.zc, da, tr, PySem.W.hideAll_none _ (by simp), Te, Heap.get?_update_self _ pT (Obj.isFreed_of_fields (Obj.data_mapFields dT _)), Obj.data_mapFields dT _, by simp [lt]⟩
  · obtain ⟨a, B, sI, _, σ', H', cls, d, rfl, J', nb, up, sky, na, os, ag, hb1, hno⟩ := air
    have J := J'.ofTry ok
    refine L2.Sky.land Zc.steady hfr hf (hs ▸ sky : Sky B (X.env :: X.outer) a (Zc cls d) X.env.locals z1.heap) fun h3 fl up3 => ?_
    exact judged hf hc hpa (fun _ q => q) (J.landed nb fl.1 (up.trans up3) os ag) fl na hb1 (fun _ => goes_out hs hf tk J nb (up.trans up3) fl na os ag hno) fun q => nomatch q
  · cases f with
    | next => exact let ⟨_, _, J, q⟩ := over; wpAny_execs_nil ⟨_, _, J.ofTry ok, q⟩
    | brk => exact let ⟨_, _, J, q⟩ := over; ⟨_, _, J.ofTry ok, q⟩
    | cont => exact let ⟨_, _, J, q⟩ := over; ⟨_, _, J.ofTry ok, q⟩
    | ret u => exact let ⟨_, _, _, J, r, q⟩ := over; ⟨_, _, _, J.ofTry ok, r, q⟩
end
end Cc

/-! f"{0:018d}". -/
namespace Cc
open PySem PySem.Spec PyProof.Rows L2
open PySem.W in
theorem zeros_meets (t : Tok) : ∀ u, Meets (Builtin.«int.__format__» ⟨[.int 0 t, .str "018d" u], []⟩) (fun _ R s => ∀ t' k, R (.ok (.ret (.str "000000000000000000" t'))) { s with toks := k }) := by
  kxf_run_i
section
variable {X : Cx} {e : Expr} {te : TE} {p1 p2 pos : Pos}
/-- zero, with eighteen places -/
theorem pe_zeros (he : PE X e te) : PE X (.FormattedValue e (-1) (some (.JoinedStr [.Constant (.str "018d") 0 p1] p2)) pos) (fun σ H Q => te σ H fun x H1 => x = .int 0 ∧ Q (.str "000000000000000000") H1) := by
  refine ⟨fun pins s σ H Q I h => ?_⟩
  refine wpAny_FormattedValue_spec (thn (he.run pins s σ H _ I h) fun v s1 ⟨x, H1, I1, rx, ex, q⟩ => ?_)
  subst ex
  obtain ⟨t, rfl⟩ := rx
  refine thn ((pe_fs1 (X := X) (pos := p2) pe_str).run pins s1 σ H1 (fun y H2 => y = .str "018d" ∧ H2 = H1) I1 ⟨rfl, rfl⟩) fun r s2 ⟨y, H2, I2, ry, ey, eH⟩ => ?_
  subst ey eH
  obtain ⟨t2, rfl⟩ := ry
  refine ⟨_, _, rfl, ?_⟩
  refine PySem.W.KXf.field_int (spec' := "018d") rfl (by decide +kernel) (by decide +kernel) (zeros_meets t) fun t3 k => ⟨.str "000000000000000000", _, I2.kept (t' := k) (fun _ _ z => z), ⟨_, rfl⟩, q⟩
end
end Cc

/-! Lists of texts as data; the signs of texts split and joined. -/
namespace Cc
open PySem PySem.Spec PyProof.Rows L2 TL
def okS (x : Str) : Prop := ∀ c ∈ tl x, c < 1114112
theorem strOk_of {x : Str} (h : okS x) : PyData.canLay0 (.str x) = true := by
  show (x.cps.all (· < 0x110000)) = true
  rw [← Array.all_toList]
  exact List.all_eq_true.mpr fun c hc => decide_eq_true (h c hc)
theorem strs_lay : ∀ {ws : List Str}, (∀ x ∈ ws, okS x) → PyData.canLayAll0 (ws.map PyData.str) = true ∧ PyData.depthAll (ws.map PyData.str) = 0
  | [], _ => ⟨rfl, rfl⟩
  | x :: ws, h => by
    obtain ⟨a, b⟩ := strs_lay (ws := ws) fun y hy => h y (List.mem_cons_of_mem _ hy)
    have c := strOk_of (h x List.mem_cons_self)
    refine ⟨?_, ?_⟩
    · show (PyData.canLay0 (.str x) && PyData.canLayAll0 (ws.map PyData.str)) = true
      rw [a, c]
      rfl
    · show max (PyData.depth (.str x)) (PyData.depthAll (ws.map PyData.str)) = 0
      rw [b]
      rfl
theorem strs_shaped {ws : List Str} (h : ∀ x ∈ ws, okS x) : SeqAt.shaped (.list (ws.map PyData.str)) = true := by
  obtain ⟨a, b⟩ := strs_lay h
  have : PyData.depth (.list (ws.map PyData.str)) = 1 := by
    show PyData.depthAll (ws.map PyData.str) + 1 = 1
    rw [b]
  unfold SeqAt.shaped
  rw [this]
  show (PyData.canLayAll0 (ws.map PyData.str) && _) = true
  rw [a]
  rfl
theorem strs_eqvAll : ∀ a b : List Str, PyData.eqvAll (a.map PyData.str) (b.map PyData.str) = decide (a = b)
  | [], [] => rfl
  | [], _ :: _ => rfl
  | _ :: _, [] => rfl
  | x :: a, y :: b => by
    show ((x == y) && PyData.eqvAll (a.map PyData.str) (b.map PyData.str)) = _
    rw [strs_eqvAll a b, Bool.eq_iff_iff]
    simp
theorem strs_eqv (a b : List Str) : PyData.eqv (.list (a.map PyData.str)) (.list (b.map PyData.str)) = decide (a = b) := strs_eqvAll a b
theorem dp_strs {K : PySem.W.Frag} {H : Hp} : ∀ ws : List Str, DpAll K H (ws.map V.str) (ws.map PyData.str)
  | [] => .nil
  | x :: ws => .cons (.str x) (dp_strs ws)
theorem spl_mem {S : List Nat} : ∀ {l acc : List Nat} {k : Nat} {p : List Nat} {c : Nat}, p ∈ spl S k acc l → c ∈ p → c ∈ acc ∨ c ∈ l
  | [], acc, k, p, c, hp, hc => by
    rw [spl_nil] at hp
    rw [List.mem_singleton.mp hp] at hc
    exact .inl hc
  | d :: r, acc, 0, p, c, hp, hc => by
    by_cases h : pre S (d :: r) = true
    · rw [spl_hit h] at hp
      rcases (List.mem_cons.mp hp) with rfl | hp
      · exact .inl hc
      · rcases spl_mem hp hc with z | z
        · cases z
        · exact .inr (List.mem_cons_of_mem _ z)
    · have h' : pre S (d :: r) = false := by simpa using h
      rw [spl_miss h'] at hp
      rcases spl_mem hp hc with z | z
      · rcases List.mem_append.mp z with z | z
        · exact .inl z
        · rw [(List.mem_singleton.mp z)]
          exact .inr List.mem_cons_self
      · exact .inr (List.mem_cons_of_mem _ z)
  | d :: r, acc, k + 1, p, c, hp, hc => by
    have hp' : p ∈ spl S k acc r := hp
    rcases spl_mem hp' hc with z | z
    · exact .inl z
    · exact .inr (List.mem_cons_of_mem _ z)
theorem split_ok {t y : Str} {s : Nat} (hy : tl y = [s]) (hk : y.cps.all (· < 256) = true) (h : okS t) : ∀ x ∈ Txt.split t y, okS x := fun x hx c hc => by
  have e := split_spl t y (by rw [hy]; simp) (kind_ok hk)
  have hm : tl x ∈ spl (tl y) 0 [] (tl t) := by
    rw [← e]
    exact List.mem_map.mpr ⟨x, hx, rfl⟩
  rcases spl_mem hm hc with z | z
  · cases z
  · exact h c z
theorem lines_ok {t : Str} (h : okS t) : ∀ x ∈ lines t, okS x := split_ok tl_nl (by decide +kernel) h
theorem words_ok {t : Str} (h : okS t) : ∀ x ∈ wordsB t, okS x := split_ok tl_sp (by decide +kernel) h
theorem joinL_mem {S : List Nat} : ∀ {l : List (List Nat)} {c : Nat}, c ∈ joinL S l → c ∈ S ∨ ∃ p ∈ l, c ∈ p
  | [], c, h => by cases h
  | [p], c, h => .inr ⟨p, List.mem_singleton.mpr rfl, h⟩
  | p :: q :: r, c, h => by
    have h' : c ∈ p ++ (S ++ joinL S (q :: r)) := h
    rcases List.mem_append.mp h' with z | z
    · exact .inr ⟨p, List.mem_cons_self, z⟩
    · rcases List.mem_append.mp z with z | z
      · exact .inl z
      · rcases joinL_mem (l := q :: r) z with z | ⟨x, hx, z⟩
        · exact .inl z
        · exact .inr ⟨x, List.mem_cons_of_mem _ hx, z⟩
theorem join_ok {y : Str} (hy : okS y) {l : List Str} (h : ∀ x ∈ l, okS x) : okS (Txt.join y l) := fun c hc => by
  rw [join_eq, tl_join] at hc
  rcases joinL_mem hc with z | ⟨p, hp, z⟩
  · exact hy c z
  · obtain ⟨x, hx, rfl⟩ := List.mem_map.mp hp
    exact h x hx c z
theorem okS_app {x y : Str} (hx : okS x) (hy : okS y) : okS (x ++ y) := fun c hc => by
  rw [tl_append] at hc
  exact (List.mem_append.mp hc).elim (hx c) (hy c)
theorem okS_of {x : Str} (h : (tl x).all (fun c => decide (c < 1114112)) = true) : okS x := fun c hc => of_decide_eq_true (List.all_eq_true.mp h c hc)
theorem num_ok (n : Nat) : okS (Str.ofString (toString ((n : Nat) : Int))) := fun c hc => by
  rw [tl_num] at hc
  have := numL_digits n c hc
  omega
/-- words of a line: the last of them, and one at a place -/
theorem last_at {ws : List Str} (h : ws ≠ []) : atI (ws.map V.str) (-1) = some (.str (lastW ws)) := by
  have e : ws = ws.dropLast ++ [lastW ws] := by
    unfold lastW
    rw [List.getLastD_eq_getLast?, List.getLast?_eq_some_getLast h]
    exact (List.dropLast_concat_getLast h).symm
  have e2 : ws.map V.str = ws.dropLast.map V.str ++ [V.str (lastW ws)] := by
    have := congrArg (List.map V.str) e
    rw [List.map_append] at this
    exact this
  rw [e2]
  exact atI_last _ _
theorem at0_at {ws : List Str} {i : Nat} (h : i < ws.length) : atI (ws.map V.str) (i : Nat) = some (.str (at0 ws i)) := by
  refine at_of (j := i) rfl ?_
  rw [List.getElem?_map, List.getElem?_eq_getElem h]
  unfold at0
  rw [List.getD_eq_getElem?_getD, List.getElem?_eq_getElem h]
  rfl
end Cc

/-! Rows that a law writes. -/
namespace Cc
open PySem PySem.Spec PyProof.Rows L2 TL
theorem numL_head (n : Nat) : n ≠ 0 → ∃ c r, numL n = c :: r ∧ 48 < c := by
  induction n using Nat.strongRecOn with | _ n ih =>
    intro h
    by_cases q : n < 10
    · exact ⟨48 + n, [], numL_lt q, by omega⟩
    · obtain ⟨c, r, e, hc⟩ := ih (n / 10) (by omega) (by omega)
      exact ⟨c, r ++ [48 + n % 10], by rw [numL_step (by omega), e]; rfl, hc⟩
theorem natOk_num (n : Nat) : natOk (numL n) = true := by
  have hd : digs (numL n) = true := List.all_eq_true.mpr fun c hc => decide_eq_true (numL_digits n c hc)
  unfold natOk
  rw [hd]
  by_cases h : n = 0
  · subst h
    rfl
  · obtain ⟨c, r, e, hc⟩ := numL_head n h
    rw [e]
    have : c ≠ 48 := by omega
    simp [this]
abbrev nS (n : Nat) : Str := Str.ofString (toString ((n : Nat) : Int))
theorem nS_tl (n : Nat) : tl (nS n) = numL n := tl_num n
theorem nS_ok (n : Nat) : okS (nS n) := num_ok n
theorem nS_num {n : Nat} {m : Int} (h : (n : Int) ≤ m) : numOk m (nS n) = true := by
  unfold numOk
  rw [nS_tl, natOk_num, Bool.true_and]
  refine decide_eq_true ?_
  show ((NumText.digitsVal (numL n) : Nat) : Int) ≤ m
  rw [numL_val]
  exact h
theorem nS_val (n : Nat) : (valL (tl (nS n)) : Int) = n := by
  rw [nS_tl]
  show ((NumText.digitsVal (numL n) : Nat) : Int) = n
  rw [numL_val]
theorem nS_free {n s : Nat} (h : s < 48 ∨ 57 < s) : s ∉ tl (nS n) := by
  rw [nS_tl]
  exact numL_free h
theorem nS_len {n : Nat} (h : n < 100) : (nS n).length ≤ 2 := by
  rw [len_tl, nS_tl]
  exact numL_len (by decide) (by omega)
theorem join_sum {y : Str} (hy : y.length = 1) {cs : List Str} (h : tot cs ≤ 16777216) : (cs.map (·.length)).sum + cs.length * y.length ≤ 16777216 := by
  have := sum_len cs
  rw [hy]
  omega
theorem words_of {x : Str} {ps : List Str} (h : tl x = joinL [32] (ps.map tl)) (ne : ps ≠ []) (hp : ∀ p ∈ ps, 32 ∉ tl p) : wordsB x = ps := by
  refine map_tl_inj ?_
  rw [split_spl _ _ (by rw [tl_sp]; simp) (kind_ok (by decide +kernel)), tl_sp, h]
  refine spl_join (fun e => ne (List.map_eq_nil_iff.mp e)) fun p hq => ?_
  obtain ⟨z, hz, rfl⟩ := List.mem_map.mp hq
  exact hp z hz
theorem lines_of {l : List Str} (ne : l ≠ []) (hp : ∀ p ∈ l, 10 ∉ tl p) : lines (Txt.join "\n" l) = l := split_join (s := 10) (S := []) tl_nl (by decide +kernel) ne hp
/-- what a row begins with, its number still wanted -/
def PreOk (c : Int) (s : Str) : Prop := okS s ∧ s.length ≤ 16 ∧ 10 ∉ tl s ∧ ∀ w, okS w → 32 ∉ tl w → known w = true → rowOk c (wordsB (s ++ w)) = true
def LineOk (c : Int) (x : Str) : Prop := okS x ∧ x.length ≤ 20 ∧ 10 ∉ tl x ∧ rowOk c (wordsB x) = true
theorem roomS_tl (b : Bool) : okS (roomS b) ∧ (roomS b).length ≤ 4 ∧ 10 ∉ tl (roomS b) ∧ 32 ∉ tl (roomS b) ∧ isRoom (roomS b) = true := by
  cases b
  · refine ⟨okS_of ?_, ?_, ?_, ?_, ?_⟩ <;> decide +kernel
  · refine ⟨okS_of ?_, ?_, ?_, ?_, ?_⟩ <;> decide +kernel
theorem tl_has : tl " has " = [32] ++ tl "has" ++ [32] := by decide +kernel
theorem tl_car : tl " carried " = [32] ++ tl "carried" ++ [32] := by decide +kernel
theorem app_len (x y : Str) : (x ++ y).length = x.length + y.length := by
  rw [len_tl, len_tl, len_tl, tl_append, List.length_append]
theorem pre_has (c : Int) (b : Bool) : PreOk c (roomS b ++ " has ") := by
  obtain ⟨r1, r2, r3, r4, r5⟩ := roomS_tl b
  refine ⟨okS_app r1 (okS_of (by decide +kernel)), ?_, ?_, fun w ow fw kw => ?_⟩
  · rw [app_len]
    have : Str.length " has " = 5 := by decide +kernel
    omega
  · rw [tl_append]
    intro z
    rcases List.mem_append.mp z with z | z
    · exact r3 z
    · exact absurd z (by decide +kernel)
  · have e : wordsB (roomS b ++ " has " ++ w) = [roomS b, Str.ofString "has", w] := by
      refine words_of ?_ (by simp) ?_
      · rw [tl_append, tl_append, tl_has]
        simp [joinL]
      · intro p hp
        simp only [List.mem_cons, List.not_mem_nil, or_false] at hp
        rcases hp with rfl | rfl | rfl
        · exact r4
        · decide +kernel
        · exact fw
    rw [e]
    unfold rowOk hasW
    show (_ || (known w && isRoom (roomS b) && ((decide (3 = 3) && decide (Str.ofString "has" = "has")) || _))) = true
    rw [kw, r5, decide_eq_true rfl, decide_eq_true rfl]
    simp
theorem pre_car {c : Int} {n : Nat} (b : Bool) (hn : (n : Int) ≤ c) (h100 : n < 100) : PreOk c (roomS b ++ " " ++ nS n ++ " carried ") := by
  obtain ⟨r1, r2, r3, r4, r5⟩ := roomS_tl b
  have nl := nS_len h100
  refine ⟨okS_app (okS_app (okS_app r1 (okS_of (by decide +kernel))) (nS_ok n)) (okS_of (by decide +kernel)), ?_, ?_, fun w ow fw kw => ?_⟩
  · rw [app_len, app_len, app_len]
    have : Str.length " carried " = 9 := by decide +kernel
    have : Str.length " " = 1 := by decide +kernel
    omega
  · rw [tl_append, tl_append, tl_append]
    intro z
    rcases List.mem_append.mp z with z | z
    · rcases List.mem_append.mp z with z | z
      · rcases List.mem_append.mp z with z | z
        · exact r3 z
        · exact absurd z (by decide +kernel)
      · exact nS_free (by omega) z
    · exact absurd z (by decide +kernel)
  · have e : wordsB (roomS b ++ " " ++ nS n ++ " carried " ++ w) = [roomS b, nS n, Str.ofString "carried", w] := by
      refine words_of ?_ (by simp) ?_
      · rw [tl_append, tl_append, tl_append, tl_append, tl_car, tl_sp]
        simp [joinL]
      · intro p hp
        simp only [List.mem_cons, List.not_mem_nil, or_false] at hp
        rcases hp with rfl | rfl | rfl | rfl
        · exact r4
        · exact nS_free (by omega)
        · decide +kernel
        · exact fw
    rw [e]
    unfold rowOk carW
    show (_ || (known w && isRoom (roomS b) && (_ || (decide (4 = 4) && decide (Str.ofString "carried" = "carried") && numOk c (nS n))))) = true
    rw [kw, r5, decide_eq_true rfl, decide_eq_true rfl, nS_num hn]
    simp
theorem line_turn (c : Int) : LineOk c "turn" := by
  refine ⟨okS_of (by decide +kernel), by decide +kernel, by decide +kernel, ?_⟩
  have e : wordsB "turn" = [Str.ofString "turn"] := words_of (by simp [joinL]) (by simp) (fun p hp => by rw [List.mem_singleton.mp hp]; decide +kernel)
  rw [e]
  unfold rowOk isTurnW
  rw [decide_eq_true rfl]
  rfl
theorem line_num {c : Int} {s w : Str} (h : PreOk c s) (ow : okS w) (fw : 32 ∉ tl w) (gw : 10 ∉ tl w) (kw : known w = true) (lw : w.length ≤ 2) : LineOk c (s ++ w) := by
  obtain ⟨h1, h2, h3, h4⟩ := h
  refine ⟨okS_app h1 ow, by rw [app_len]; omega, ?_, h4 w ow fw kw⟩
  rw [tl_append]
  intro z
  exact (List.mem_append.mp z).elim h3 gw
theorem known_num {n : Nat} (h : n < 100) : known (nS n) = true := by
  unfold known
  rw [nS_num (by omega), Bool.or_true]
theorem known_q : known "?" = true := by
  unfold known
  rw [decide_eq_true rfl]
  rfl
theorem head_row (n : Nat) (h : (n : Int) ≤ 1000000000000000000) : headV (wordsB (Str.ofString "chairs " ++ nS n)) = some (n : Int) ∧ 10 ∉ tl (Str.ofString "chairs " ++ nS n) := by
  have e : wordsB (Str.ofString "chairs " ++ nS n) = [Str.ofString "chairs", nS n] := by
    refine words_of ?_ (by simp) ?_
    · rw [tl_append, show tl (Str.ofString "chairs ") = tl (Str.ofString "chairs") ++ [32] by decide +kernel]
      simp [joinL]
    · intro p hp
      simp only [List.mem_cons, List.not_mem_nil, or_false] at hp
      rcases hp with rfl | rfl
      · decide +kernel
      · exact nS_free (by omega)
  refine ⟨?_, ?_⟩
  · rw [e]
    show (if (decide (2 = 2) && decide (Str.ofString "chairs" = "chairs") && numOk 1000000000000000000 (nS n)) = true then some (valL (tl (nS n)) : Int) else none) = _
    rw [decide_eq_true rfl, decide_eq_true rfl, nS_num h, nS_val]
    rfl
  · rw [tl_append]
    intro z
    rcases List.mem_append.mp z with z | z
    · exact absurd z (by decide +kernel)
    · exact nS_free (by omega) z
end Cc

/-! Own rules: count of a list, of a tuple; what is never reached; isinstance of a caught error. -/
namespace Cc
open PySem PySem.Spec PyProof.Rows L2
theorem room65 {k : Nat} {A : Around} (hr : Room k A) : A.units + 65 < cLine := by
  have := hr.un
  omega
/-- what is never reached -/
theorem pe_never {X : Cx} {e : Expr} : PE X e (fun _ _ _ => False) := ⟨fun _ _ _ _ _ _ h => h.elim⟩
def rCountL (K : PySem.W.Frag) : V → List V → Hp → VK → Prop := fun x xs H Q => ∃ (a : Addr) (ys : List V) (y : V) (d : PyData) (ds : List PyData), x = V.ref a ∧ xs = [y] ∧ SqL K H a ys ∧ DpAll K H ys ds ∧ Dp K H y d ∧
  SeqAt.shaped (.list ds) = true ∧ SeqAt.shaped d = true ∧ PyData.plainAll ds = true ∧ d.plain = true ∧ Q (.int ((ds.countP fun z => PyData.eqv z d : Nat) : Int)) H
def rCountT (K : PySem.W.Frag) : V → List V → Hp → VK → Prop := fun x xs H Q => ∃ (a : Addr) (ys : List V) (y : V) (d : PyData) (ds : List PyData), x = V.ref a ∧ xs = [y] ∧ SqT K H a ys ∧ DpAll K H ys ds ∧ Dp K H y d ∧
  SeqAt.shaped (.list ds) = true ∧ SeqAt.shaped d = true ∧ PyData.plainAll ds = true ∧ d.plain = true ∧ Q (.int ((ds.countP fun z => PyData.eqv z d : Nat) : Int)) H
theorem mt_countL {X : Cx} (hu : X.A.units + 65 < cLine) : MtR X "list.count" (rCountL X.K) := by
  intro pins s σ H x xs v us Q I rx rxs h; obtain ⟨a, ys, y, d, ds, rfl, rfl, hs, ha, hy, sl, sd, pl, pd, q⟩ := h
  cases rx
  cases rxs with
  | cons ry rt =>
    rename_i uy ut
    cases rt
    obtain ⟨bs, r1⟩ := Dp.reads I d y uy hy ry; have hroom : X.A.units + 1 + min (PyData.depthAll ds) d.depth < cLine := room_in_shaped sd hu
    obtain ⟨its, rv, p, hlen⟩ := I.list hs
    obtain ⟨as, h4⟩ := Dp.readsAll I ds _ its ha rv; exact SeqAt.count_list_data (vs := its.toArray) p.isList (by simpa using h4) r1 pl pd hroom ⟨.int _, H, I.tok _, ⟨_, rfl⟩, q⟩
theorem mt_countT {X : Cx} (hu : X.A.units + 65 < cLine) : MtR X "tuple.count" (rCountT X.K) := by
  intro pins s σ H x xs v us Q I rx rxs h; obtain ⟨a, ys, y, d, ds, rfl, rfl, hs, ha, hy, sl, sd, pl, pd, q⟩ := h
  cases rx
  cases rxs with
  | cons ry rt =>
    rename_i uy ut
    cases rt
    obtain ⟨bs, r1⟩ := Dp.reads I d y uy hy ry; have hroom : X.A.units + 1 + min (PyData.depthAll ds) d.depth < cLine := room_in_shaped sd hu
    obtain ⟨its, rv, p, hlen⟩ := I.tuple hs
    obtain ⟨as, h4⟩ := Dp.readsAll I ds _ its ha rv; exact SeqAt.count_tuple_data (vs := its.toArray) p (by simpa using h4) r1 pl pd hroom ⟨.int _, H, I.tok _, ⟨_, rfl⟩, q⟩
/-- a method of a locked tuple -/
def tBMZ (r : V → List V → Hp → VK → Prop) (to : TE) (t : TA) : TE := fun σ H Q => to σ H fun x H1 => (∃ p ws, x = V.ref p ∧ TupP H1 p ws) ∧ t σ H1 fun xs H2 => r x xs H2 Q
theorem pe_bmZ {X : Cx} {o e : Expr} {es : List Expr} {to : TE} {t : TA} {name : Str} {apos cpos : Pos} {id : String} {r : V → List V → Hp → VK → Prop} (slot : Slot "tuple" name id) (hty : typeOf (.builtin id) = pure (.type "method_descriptor")) (hm : MtR X id r) (ho : PE X o to) (ha : PA X (e :: es) t)
    (hbase : attributeBase o name X.env (eval o X.env) = eval o X.env := by rfl) (hfew : ((backTo cpos (starEach (e :: es) X.env)).all (fun x => !x.1) && (backToKw cpos (keywordEach [] X.env)).all (fun x => x.1.isSome) && decide ((e :: es).length + ([] : List Keyword).length + (if ([] : List Keyword).isEmpty then 0 else 1) < 30)) = true := by rfl)
    (hline : (apos.endLine == cpos.line) = true := by rfl) (hs : starEach (e :: es) X.env = (false, eval e X.env) :: starEach es X.env := by rfl) (hpl : (backTo cpos (starEach es X.env)).any (·.1) = false := by rfl) :
    PE X (.Call (.Attribute o name apos) (e :: es) [] cpos) (tBMZ r to t) := by
  refine ⟨fun pins s σ H Q I h => wpAny_Call_method_late hbase hfew hline rfl (thn (ho.run pins s σ H _ I h) fun v s1 ⟨x, H1, I1, r1, ⟨p, ws, ex, ob, d0, eH⟩, q1⟩ => ?_)⟩
  subst ex
  cases r1
  obtain ⟨g0, _, its, _, ⟨o2, g2, c2, _⟩⟩ := (show ObjOk X.prog X.w H1 s1.heap p (.frz ob (.tup ws)) from I1.hok p _ eH)
  have ti : s1.TypeIs (.ref p) "tuple" := ⟨o2, g2, c2⟩
  refine ⟨"tuple", id, PySem.F.plainAttrs_tuple, slot, hty, ti, fun a z => ⟨ob, by cases z; exact g0, d0⟩, ?_⟩
  have hA := ha.run cpos pins s1 σ H1 _ I1 q1; rw [hs] at hA ⊢
  exact Calls.callWith_builtin (by show (false || (backTo cpos (starEach es X.env)).any (·.1)) = false; rw [hpl]; rfl) (Calls.evalArgs_plain (thn hA fun us s2 ⟨vs, H2, I2, r2, q2⟩ => hm pins s2 σ H2 (.ref p) vs (.ref p) us Q I2 rfl r2 q2))
/-- an own class asked of an own class's instance -/
theorem kit_ref {K : PySem.W.Frag} {C : Addr} {cls : Value} {b : Bool} (i : PySem.W.isClsIn K C = true) (t : PySem.W.typeIn K (.ref C) = some (.type "type")) (h : PySem.W.subIn K cls (.ref C) = some b) (ne : b = false → (cls == Value.ref C) = false) : PySem.W.kitOne K cls (.ref C) = some b := by
  have i2 : (PySem.W.clsIn K C).isSome = true := i
  unfold PySem.W.kitOne
  by_cases q : (cls == Value.ref C) = true
  · rw [if_pos q]
    cases b with
    | true => rfl
    | false =>
      rw [ne rfl] at q
      cases q
  · rw [if_neg q]
    show PySem.W.kitCls K cls (.ref C) = some b
    unfold PySem.W.kitCls
    simp only [i2, t, h]
    rfl
/-- steps as data -/
def stpD : Stp → PyData
  | .turn => .tuple [.str "turn"]
  | .meet b n => .tuple [.str (roomS b), .int n]
theorem stpD_dp {K : PySem.W.Frag} {H : Hp} : ∀ {vs : List V} {ss : List Stp}, Steps H vs ss → DpAll K H vs (ss.map stpD)
  | _, _, .nil => .nil
  | _, s :: ss, .cons ⟨t, e, h⟩ r => by
    subst e
    refine .cons ?_ (stpD_dp r)
    cases s with
    | turn => exact .tup (SqT.of h) (.cons (.str _) .nil)
    | meet b n => exact .tup (SqT.of h) (.cons (.str _) (.cons (.int _) .nil))
theorem stpD_lay : ∀ ss : List Stp, PyData.canLayAll0 (ss.map stpD) = true ∧ PyData.depthAll (ss.map stpD) ≤ 1 ∧ PyData.plainAll (ss.map stpD) = true
  | [] => by simp [PyData.canLayAll0, PyData.depthAll, PyData.plainAll]
  | s :: ss => by
    obtain ⟨a, b, c⟩ := stpD_lay ss
    have h1 : ∀ bb, PyData.strOk (roomS bb) = true := fun bb => by cases bb <;> decide +kernel
    have h2 : PyData.strOk "turn" = true := by decide +kernel
    cases s with
    | turn =>
      refine ⟨by simp [PyData.canLayAll0, PyData.canLay0, stpD, a, h2], ?_, by simp [PyData.plainAll, PyData.plain, stpD, c]⟩
      simp [PyData.depthAll, PyData.depth, stpD]
      omega
    | meet bb n =>
      refine ⟨by simp [PyData.canLayAll0, PyData.canLay0, stpD, a, h1], ?_, by simp [PyData.plainAll, PyData.plain, stpD, c]⟩
      simp [PyData.depthAll, PyData.depth, stpD]
      omega
theorem stpD_shaped (ss : List Stp) : SeqAt.shaped (.list (ss.map stpD)) = true := by
  obtain ⟨a, b, _⟩ := stpD_lay ss
  have : PyData.depth (.list (ss.map stpD)) ≤ 2 := by
    simp [PyData.depth]
    omega
  simp [SeqAt.shaped, PyData.canLay0, a]
  omega
theorem count_turns : ∀ ss : List Stp, ((ss.map stpD).countP fun z => PyData.eqv z (.tuple [.str "turn"])) = turnsF ss
  | [] => rfl
  | s :: ss => by
    have ih := count_turns ss
    rw [List.map_cons, List.countP_cons, ih]
    cases s with
    | turn =>
      have e : PyData.eqv (stpD .turn) (.tuple [.str "turn"]) = true := eqv_turn
      rw [e]
      rfl
    | meet b n =>
      have e : PyData.eqv (stpD (.meet b n)) (.tuple [.str "turn"]) = false := eqv_meet b n
      rw [e]
      rfl
end Cc

/-! Own rule: a list from its end to its beginning, xs[::-1]. -/
namespace Cc
open PySem PySem.Spec PyProof.Rows L2
def tRev (K : PySem.W.Frag) (te : TE) : TE := fun σ H Q => te σ H fun x H1 => ∃ (a : Addr) (xs : List V), x = .ref a ∧ SqL K H1 a xs ∧ ∀ p, H1 p = none → Q (.ref p) (upd H1 p (.lst xs.reverse))
theorem pe_rev {X : Cx} {e : Expr} {te : TE} {pos p2 pc pu : Pos} (he : PE X e te) : PE X (.Subscript e (.Slice none none (some (.UnaryOp .USub (.Constant (.int 1) 0 pc) pu)) p2) pos) (tRev X.K te) := by
  refine ⟨fun pins s σ H Q I h => ?_⟩
  refine Subscript_ (thn (he.run pins s σ H _ I h) fun v s1 ⟨x, H1, I1, r1, a, xs, ex, hx, q1⟩ => ?_)
  subst ex
  have st : PO X (some (Expr.UnaryOp .USub (.Constant (.int 1) 0 pc) pu)) (tPart (tUn (rU fun i => .int (-i)) (tC (.int 1)))) := po_some (pe_un un_neg pe_int)
  refine wpAny_Slice (thn (po_none.run pins s1 σ H1 (fun l H2 => l = none ∧ H2 = H1) I1 ⟨rfl, rfl⟩) fun vl s2 ⟨l, H2, I2, pl, el, eH⟩ => ?_)
  subst el
  subst eH
  refine thn (po_none.run pins s2 σ H2 (fun l H3 => l = none ∧ H3 = H2) I2 ⟨rfl, rfl⟩) fun vu s3 ⟨u, H3, I3, pu', eu, eH⟩ => ?_
  subst eu
  subst eH
  refine thn (st.run pins s3 σ H3 (fun l H4 => l = some (-1) ∧ H4 = H3) I3 ⟨1, rfl, -1, rfl, rfl, rfl⟩) fun vk s4 ⟨k, H4, I4, pk, ek, eH⟩ => ?_
  subst ek
  subst eH
  have I5 : Inv X pins σ H4 { s4 with heap := s4.heap.push { cls := .type "slice", data := .fields #[vl, vu, vk] } } := I4.kept (t' := s4.toks) fun b ob q => Heap.get?_push_of_some _ q
  cases r1
  obtain ⟨its, r, ht, hz⟩ := I5.list hx; have hlen := r.length
  show wpAny (model X.prog X.w) X.A (subscriptTail e (.Slice none none (some (.UnaryOp .USub (.Constant (.int 1) 0 pc) pu)) p2) (.ref a) (.ref s4.heap.objs.size)) (EP X pins σ Q) X.xe { s4 with heap := s4.heap.push { cls := .type "slice", data := .fields #[vl, vu, vk] } }
  refine tail_any (ops := [.ref a, .ref s4.heap.objs.size]) ht.isList.typeIs slot_list_getitem.lookup ?_ (by with_unfolding_all rfl)
  refine wpAny_getItem_list_slice ht.isList (Heap.IsSliceOf.new ..) pl pu' pk (by simp) ?_ (by rw [List.size_toArray] <;> omega)
  rw [PySem.W.krv_pick]
  refine ⟨.ref _, _, I5.laid (t' := s4.toks) (o := .lst xs.reverse) (fun b ob q => Heap.get?_push_of_some _ q) (Nat.le_refl _) ?_, rfl, q1 _ (I5.hok.fresh (Nat.le_refl _))⟩
  refine ⟨by rw [List.length_reverse]; omega, its.toArray.toList.reverse, 0, by simpa using r.reverse, Heap.get?_push_size _ rfl⟩
/-- o.m() by a positional promise -/
theorem pe_methR0 {X : Cx} {CX : CXT} {k : Nat} {C f : Addr} {m : Str} {sp : Sp} {E : XK} {o : Expr} {ta : TE} {apos pos : Pos} {pl : Sem Bool} (he : PE X o ta) (c : Cls X.K C) (hm : Meth X.K C m f)
    (F : FnR X.prog X.w X.K X.mg X.base CX k f sp) (hr : Room k X.A) (hx : Passes CX X E) (ht : eval (.Call (.Attribute o m apos) [] [] pos) X.env = (do
      let ov ← eval o X.env
      standAt apos.atName
      let (f, first) ← holding [ov] (getMethod ov m pl); callWith pos f first (backTo pos (starEach [] X.env)) (backToKw pos (keywordEach [] X.env))) := by rfl) :
    PE X (.Call (.Attribute o m apos) [] [] pos) (tMethR C m sp E ta tNil) := by
  refine ⟨fun pins s σ H Q I h => PySem.W.methodCall_KW (pl := pl) (thn (he.run pins s σ H _ I h) fun u s1 ⟨x, H1, I1, rx, a, dx, fs, ex, ea, l, q⟩ => ?_) ht⟩
  subst ex
  obtain rfl : u = Value.ref a := rx
  exact getmeth_ok I1 ea c hm l (PySem.W.callWith_K0 (first := [.ref a]) I1.kIn hm.kp (wpAny_call (run_fnR (us := [.ref a]) (vs := [.ref a]) F hr hx I1 (.cons rfl .nil) q)))
end Cc

/-! Texts that the law of daybooks names. -/
namespace Cc
open PySem PySem.Spec PyProof.Rows L2 TL
abbrev edgeL : List Str := ["chairs 1000000000000000000\nred has 1000000000000000000", "chairs 1000000000000000001", "chairs 3\nred 4 carried ?", "chairs 3\nred has 1000000000000000001", "chairs 3\nred 3 carried 1000000000000000000"]
abbrev edgeB : List (Option Nat) := [none, some 0, some 1, some 1, none]
theorem edge_bad : edgeL.map (fun t => badF (rowsT t)) = edgeB := by decide +kernel
theorem edge_ok : ∀ t ∈ edgeL, okS t ∧ t.length ≤ 100 := by
  intro x hx
  have : (edgeL.all fun x => (tl x).all (fun c => decide (c < 1114112)) && decide (x.length ≤ 100)) = true := by decide +kernel
  have := List.all_eq_true.mp this x hx
  rw [Bool.and_eq_true] at this
  exact ⟨okS_of this.1, of_decide_eq_true this.2⟩
theorem ext_tl2 {a b : Str} : a = b ↔ tl a = tl b := ⟨fun z => by rw [z], ext_tl⟩
theorem short_lines {t : Str} {n : Nat} (h : t.length ≤ n) : ∀ y ∈ lines t, y.length ≤ n := fun y hy => by
  have h1 := tot_mem hy
  rw [(lines_tot t).1] at h1
  omega
theorem lines_of' {x : Str} {ps : List Str} (h : tl x = joinL [10] (ps.map tl)) (ne : ps ≠ []) (hp : ∀ p ∈ ps, 10 ∉ tl p) : lines x = ps := by
  refine map_tl_inj ?_
  rw [split_spl _ _ (by rw [tl_nl]; simp) (kind_ok (by decide +kernel)), tl_nl, h]
  refine spl_join (fun e => ne (List.map_eq_nil_iff.mp e)) fun p hq => ?_
  obtain ⟨z, hz, rfl⟩ := List.mem_map.mp hq
  exact hp z hz
theorem foldl_cps : ∀ (m : Nat) (a b : Array Nat), ((List.replicate m b).foldl (· ++ ·) a).toList = a.toList ++ (List.replicate m b.toList).flatten
  | 0, a, b => by simp
  | m + 1, a, b => by
    rw [List.replicate_succ, List.foldl_cons, foldl_cps m (a ++ b) b, Array.toList_append, List.append_assoc]
    rfl
theorem mul_tl {x : Str} {n : Nat} (h : 2 ≤ n) (hx : x.length ≠ 0) : tl (Txt.mul x (n : Int)) = (List.replicate n (tl x)).flatten := by
  unfold Txt.mul
  rw [if_neg (by omega), if_neg (by
    rw [Bool.or_eq_true, beq_iff_eq, beq_iff_eq]
    omega)]
  show ((List.replicate (n : Int).toNat x.cps).foldl (· ++ ·) #[]).toList = _
  rw [foldl_cps, Int.toNat_natCast]
  rfl
theorem join_rep (a b : List Nat) : ∀ n : Nat, joinL [10] (a :: List.replicate n b) = a ++ (List.replicate n (10 :: b)).flatten
  | 0 => by simp [joinL]
  | n + 1 => by
    have h : joinL [10] (a :: List.replicate (n + 1) b) = a ++ ([10] ++ joinL [10] (b :: List.replicate n b)) := rfl
    rw [h, join_rep b b n]
    simp [List.replicate_succ]
def longT (n : Nat) : Str := Str.ofString "chairs 3" ++ Txt.mul "\nturn" (n : Int)
theorem long_tl {n : Nat} (h : 2 ≤ n) : tl (longT n) = joinL [10] ((Str.ofString "chairs 3" :: List.replicate n (Str.ofString "turn")).map tl) := by
  unfold longT
  rw [tl_append, mul_tl h (by decide +kernel), List.map_cons, List.map_replicate, join_rep]
  rw [show tl (Str.ofString "\nturn") = 10 :: tl (Str.ofString "turn") by decide +kernel]
theorem long_lines {n : Nat} (h : 2 ≤ n) : lines (longT n) = Str.ofString "chairs 3" :: List.replicate n (Str.ofString "turn") :=
  lines_of' (long_tl h) (by simp) (fun p hp => by
    rcases (List.mem_cons.mp hp) with rfl | hp
    · decide +kernel
    · rw [(List.mem_replicate.mp hp).2]
      decide +kernel)
theorem words_turn : wordsB "turn" = [Str.ofString "turn"] := words_of (by simp [joinL]) (by simp) (fun p hp => by rw [List.mem_singleton.mp hp]; decide +kernel)
theorem long_bad {n : Nat} (h : 2 ≤ n) : badF (rowsT (longT n)) = if 201 < 1 + n then some 201 else none := by
  unfold rowsT
  rw [long_lines h, List.map_cons, List.map_replicate]
  have e : headV (wordsB (Str.ofString "chairs 3")) = some 3 := by
    have := (head_row 3 (by decide)).1
    rw [show Str.ofString "chairs " ++ nS 3 = Str.ofString "chairs 3" from ext_tl2.mpr (by decide +kernel)] at this
    exact this
  unfold badF
  show (match headV (wordsB (Str.ofString "chairs 3")) with | none => some 0 | some c => badFrom c 1 (List.replicate n (wordsB (Str.ofString "turn")))) = _
  rw [e, words_turn]
  exact badFrom_rep (by decide)
theorem tot_rep (x : Str) : ∀ n : Nat, tot (List.replicate n x) = n * (x.length + 1)
  | 0 => by rw [Nat.zero_mul]; rfl
  | n + 1 => by rw [List.replicate_succ, tot_cons, tot_rep x n, Nat.succ_mul, Nat.add_comm]
theorem long_ok {n : Nat} (h : 2 ≤ n) (h2 : n ≤ 300) : okS (longT n) ∧ (longT n).length ≤ 3000 ∧ (∀ y ∈ lines (longT n), y.length ≤ 600) := by
  refine ⟨fun c hc => ?_, ?_, fun y hy => ?_⟩
  · unfold longT at hc
    rw [tl_append, mul_tl h (by decide +kernel)] at hc
    rcases List.mem_append.mp hc with z | z
    · exact okS_of (x := Str.ofString "chairs 3") (by decide +kernel) c z
    · obtain ⟨l, hl, hc2⟩ := List.mem_flatten.mp z
      rw [(List.mem_replicate.mp hl).2] at hc2
      exact okS_of (x := Str.ofString "\nturn") (by decide +kernel) c hc2
  · have := (lines_tot (longT n)).1
    rw [long_lines h, tot_cons] at this
    have e : tot (List.replicate n (Str.ofString "turn")) = n * 5 := by
      rw [tot_rep, show (Str.ofString "turn").length = 4 by decide +kernel]
    rw [e, show (Str.ofString "chairs 3").length = 8 by decide +kernel] at this
    omega
  · rw [long_lines h] at hy
    rcases (List.mem_cons.mp hy) with rfl | hp
    · decide +kernel
    · rw [(List.mem_replicate.mp hp).2]
      decide +kernel
end Cc

/-! The words of integers. -/
namespace Cc
open PySem PySem.Spec PyProof.Rows L2 TL
def iAtW (σ : L2.St) (i : Nat) : Int := match σ[i]? with
  | some (some (.int n)) => n
  | _ => 0
abbrev zerosS : Str := "000000000000000000"
abbrev iS (n : Int) : Str := Str.ofString (toString n)
theorem numL_le20 {n : Nat} (h : n ≤ 1000000000000000000) : (numL n).length ≤ 40 := by
  unfold numL
  rw [List.length_map]
  have e := (Nat.length_repr_le_iff (n := n) (k := 40) (by decide)).mpr (by omega)
  rw [← String.length_toList, Nat.toList_repr] at e; exact e
theorem iS_neg (m : Nat) (h : 0 < m) : iS (-(m : Int)) = "-" ++ iS (m : Int) := by
  obtain ⟨k, rfl⟩ : ∃ k, m = k + 1 := ⟨m - 1, by omega⟩
  apply ext_tl2.mpr
  rw [tl_append, tl_ofString, tl_ofString]
  show (("-" ++ toString (k + 1) : String)).toList.map Char.toNat = _
  rw [String.toList_append, List.map_append, tl_ofString]
  rfl
def spWordOf : Sp := fun vs H Q _ => ∃ n : Int, vs = [.int n] ∧ -1000 < n ∧ n ≤ 1000000000000000000 ∧ ∀ H', Same H H' → Q (.str (iS n)) H'
section
variable {P : Program} {w : World} {K : PySem.W.Frag} {mg : Str → Option Value} {base : Heap} {C TU pS gS : Addr} {mc : Value}
abbrev s_word_of : Stmt := top 23
abbrev n_word_of : List Str := ["number", "rest", "parts", "part"]
theorem sc_word_of : FnScope n_word_of ["number"] (defScope s_word_of) := ⟨rfl, rfl, rfl, by decide +kernel, rfl, by decide +kernel, by decide +kernel⟩
theorem ok_word_of {f : Addr} {fd : FuncData} (F : Fun K "word_of" "word_of" s_word_of f fd) (T : Txt K mg C TU pS gS mc) (g_LONG_PART : ∃ u, mg "LONG_PART" = some u ∧ RelV (.int 1000000000000000000) u) : FnOk P w K mg base CX0 1 f fd ["number"] spWordOf := by
  refine F.ok sc_word_of (fun vs H Q E h => ?_) (fun cdv A outer s H vs Q E hr h => ?_)
  · obtain ⟨n, rfl, _⟩ := h
    rfl
  · obtain ⟨n, rfl, n0, n1, k⟩ := h
    obtain ⟨u_LONG_PART, m_LONG_PART, r_LONG_PART⟩ := g_LONG_PART
    refine ⟨_, pss_cons (ps_set (i := 1) sc_word_of.nd rfl (.inl rfl) (pe_callB call_abs (by rfl) T.b.abs (by decide +kernel) (pa_cons (pv 0) pa_nil)))
      (pss_cons (ps_set (i := 2) sc_word_of.nd rfl (.inl rfl) (pe_lst pa_nil))
      (pss_cons (ps_while PassesOwn.never (pt_cmpR op_ge (pv 1) (pe_glob rfl m_LONG_PART r_LONG_PART) (nomark _))
        (pss_cons (ps_asg (pe_callB call_divmodW (by rfl) T.b.divmod (by decide +kernel) (pa_cons (pv 1) (pa_cons (pe_glob rfl m_LONG_PART r_LONG_PART) pa_nil))) (pg_tup rfl (pgs_cons (pg_name (i := 1) sc_word_of.nd rfl (.inl rfl)) (pgs_cons (pg_name (i := 3) sc_word_of.nd rfl (.inl rfl)) pgs_nil))))
        (pss_one (ps_expr (pe_bm PySem.F.plainAttrs_list PySem.F.slot_list_append PySem.F.type_list_append mt_append (pv 2) (pa_cons (pe_joined1 (pe_zeros (pv 3))) pa_nil))))))
      (pss_cons (ps_expr (pe_bm PySem.F.plainAttrs_list PySem.F.slot_list_append PySem.F.type_list_append mt_append (pv 2) (pa_cons (pe_ifExp (pt_cmpR op_ge (pv 0) pe_int (nomark _)) (pe_callTy call_str_int (by rfl) T.b.str (by decide +kernel) (pa_cons (pv 1) pa_nil)) (pe_joined (.cons pe_str (.cons (pe_fmt (pv 1)) .nil)))) pa_nil)))
      (pss_one (ps_ret (pe_join pe_str (pe_rev (pv 2)))))))), ?_⟩
    refine ⟨_, rfl, n, rfl, ?_⟩
    obtain ⟨m, hm⟩ : ∃ m : Int, (if n < 0 then -n else n) = m := ⟨_, rfl⟩
    dsimp only
    rw [hm]
    have m0 : 0 ≤ m ∧ m ≤ 1000000000000000000 := by
      rw [← hm]
      split <;> omega
    refine ⟨by show 0 ≤ sizeLine; decide, fun pl hpl => ?_⟩
    have s1 := same_upd (o := .lst []) hpl
    have g1 := upd_same (H := H) (a := pl) (o := .lst [])
    generalize upd H pl (.lst []) = H1 at *
    refine while_by (fun σ H' => ∃ (rest : Int) (ws : List Str) (x3 : Option V), σ = [some (.int n), some (.int rest), some (.ref pl), x3] ∧ Same H H' ∧ H' pl = some (.lst (ws.map V.str)) ∧ ((rest = m ∧ ws = []) ∨ (n = 1000000000000000000 ∧ rest = 1 ∧ ws = [zerosS]))) (fun σ _ => (iAtW σ 1).toNat)
      ⟨m, [], none, rfl, s1, g1, .inl ⟨rfl, rfl⟩⟩ ?_ (fun σ H Q Q' hq h => ?_)
    · rintro σ H2 ⟨rest, ws, x3, rfl, s2, g2, hk⟩
      refine ⟨_, rfl, _, _, rfl, rfl, _, rfl, ?_⟩
      by_cases hbig : 1000000000000000000 ≤ rest
      · refine ifT (decide_eq_true hbig) ?_
        obtain ⟨em, ew⟩ := hk.resolve_right (fun ⟨_, z, _⟩ => by omega)
        have em2 : rest = 1000000000000000000 := by omega
        have en : n = 1000000000000000000 := by
          have hm' := hm
          split at hm' <;> omega
        subst ew em2 en
        refine ⟨_, rfl, _, _, rfl, ⟨by decide, by decide +kernel⟩, fun q hq => ?_⟩
        have s3 := same_upd (o := .tup [.int (1000000000000000000 / 1000000000000000000), .int (1000000000000000000 % 1000000000000000000)]) hq
        have g3 := s3 _ _ g2
        refine ⟨q, _, rfl, SqT.of upd_same, rfl, _, _, rfl, _, _, rfl, rfl, ?_⟩
        generalize upd H2 q (.tup [.int (1000000000000000000 / 1000000000000000000), .int (1000000000000000000 % 1000000000000000000)]) = H3 at *
        refine ⟨_, rfl, .inl ⟨rfl, _, SqL.of g3⟩, _, rfl, rfl, pl, [], _, rfl, rfl, g3, by show 0 < sizeLine; decide, ?_⟩
        refine ⟨⟨1, [zerosS], _, rfl, fun b o z => ?_, upd_same, .inr ⟨rfl, rfl, rfl⟩⟩, by show (1 : Int).toNat < (1000000000000000000 : Int).toNat; decide⟩
        rw [upd_ne (ne_of_none z hpl)]
        exact s3 _ _ (s2 _ _ z)
      · refine ifF (decide_eq_false hbig) ?_
        refine ⟨_, rfl, .inl ⟨rfl, _, SqL.of g2⟩, _, rfl, _, _, rfl, rfl, _, rfl, ?_⟩
        have lw : (ws.map V.str).length < sizeLine := by
          rcases hk with ⟨_, z⟩ | ⟨_, _, z⟩ <;> rw [z] <;> decide
        have done : ∀ (last : Str) (p : Addr), last.length ≤ 100 → Txt.join "" (last :: ws.reverse) = iS n → upd H2 pl (.lst (ws.map V.str ++ [.str last])) p = none →
            upd (upd H2 pl (.lst (ws.map V.str ++ [.str last]))) p (.lst (ws.map V.str ++ [V.str last]).reverse) p = some (.lst ((last :: ws.reverse).map V.str)) ∧ ((last :: ws.reverse).map (·.length)).sum + (last :: ws.reverse).length * Str.length "" ≤ 16777216 ∧ Q (.str (Txt.join "" (last :: ws.reverse))) (upd (upd H2 pl (.lst (ws.map V.str ++ [.str last]))) p (.lst (ws.map V.str ++ [V.str last]).reverse)) := by
          intro last p hl he hp
          refine ⟨?_, ?_, ?_⟩
          · rw [upd_same, List.reverse_append, ← List.map_reverse]
            rfl
          · have l0 : Str.length "" = 0 := by decide +kernel
            have l1 : Str.length zerosS = 18 := by decide +kernel
            rcases hk with ⟨_, z⟩ | ⟨_, _, z⟩ <;> rw [z, l0] <;> simp [l1] <;> omega
          · rw [he]
            refine k _ fun b o z => ?_
            have nb : b ≠ pl := ne_of_none z hpl
            have np : b ≠ p := fun w => by
              rw [← w, upd_ne nb] at hp
              exact nomatch (s2 _ _ z).symm.trans hp
            rw [upd_ne np, upd_ne nb]
            exact s2 _ _ z
        have small : ∀ r : Int, 0 ≤ r → r ≤ 1000000000000000000 → r.natAbs.log2 < 1920 := fun r h0 h1 => by
          have : r.natAbs < 2 ^ 64 := by omega
          by_cases hz : r.natAbs = 0
          · rw [hz]; decide
          · have := (Nat.log2_lt hz).mpr this
            omega
        have len20 : ∀ r : Int, 0 ≤ r → r ≤ 1000000000000000000 → (iS r).length ≤ 40 := fun r h0 h1 => by
          obtain ⟨j, rfl⟩ : ∃ j : Nat, r = (j : Nat) := ⟨r.toNat, by omega⟩
          rw [len_tl, tl_num]
          exact numL_le20 (by omega)
        by_cases hn : 0 ≤ n
        · refine ifT (decide_eq_true hn) ⟨_, rfl, rest, rfl, ?_, ?_⟩
          · rcases hk with ⟨z, _⟩ | ⟨_, z, _⟩
            · exact small _ (by omega) (by omega)
            · rw [z]; decide
          have hj : Txt.join "" (iS rest :: ws.reverse) = iS n := by
            rcases hk with ⟨z1, z2⟩ | ⟨z1, z2, z3⟩
            · have e : rest = n := by
                have hm' := hm
                rw [if_neg (by omega)] at hm'
                omega
              rw [z2, e, join_eq]
              rfl
            · rw [z1, z2, z3]
              decide +kernel
          have hl : (iS rest).length ≤ 100 := by
            rcases hk with ⟨z, _⟩ | ⟨_, z, _⟩
            · exact Nat.le_trans (len20 _ (by omega) (by omega)) (by decide)
            · rw [z]; decide +kernel
          exact ⟨pl, _, _, rfl, rfl, g2, lw, ⟨_, rfl⟩, _, rfl, pl, _, rfl, SqL.of upd_same, fun p hp => ⟨"", p, _, rfl, rfl, .inl (SqL.of (done _ p hl hj hp).1), (done _ p hl hj hp).2.1, (done _ p hl hj hp).2.2⟩⟩
        · refine ifF (decide_eq_false hn) ?_
          obtain ⟨z1, z2⟩ := hk.resolve_right fun z => by omega
          have en : n = -rest := by
            have hm' := hm
            rw [if_pos (by omega)] at hm'
            omega
          obtain ⟨j, hj0⟩ : ∃ j : Nat, rest = (j : Nat) := ⟨rest.toNat, by omega⟩
          have ea : Str.empty ++ ("-" : Str) = "-" := by decide +kernel
          have hneg : iS n = "-" ++ iS rest := by
            rw [en, hj0]
            exact iS_neg j (by omega)
          have hl0 := len20 rest (by omega) (by omega)
          have hl : (("-" : Str) ++ iS rest).length ≤ 100 := by
            rw [Str.length_append]
            have : Str.length "-" = 1 := by decide +kernel
            omega
          have hj : Txt.join "" (("-" ++ iS rest) :: ws.reverse) = iS n := by
            rw [z2, hneg, join_eq]
            rfl
          refine ⟨"-", rfl, by rw [ea]; decide +kernel, ?_⟩
          rw [ea]
          refine ⟨_, rfl, .inr ⟨rest, rfl, small _ (by omega) (by omega), _, rfl, Nat.le_trans hl (by rw [sizeLine_eq]; decide), ?_⟩⟩
          exact ⟨pl, _, _, rfl, rfl, g2, lw, ⟨_, rfl⟩, _, rfl, pl, _, rfl, SqL.of upd_same, fun p hp => ⟨"", p, _, rfl, rfl, .inl (SqL.of (done _ p hl hj hp).1), (done _ p hl hj hp).2.1, (done _ p hl hj hp).2.2⟩⟩
    · obtain ⟨v, e1, i, j, e3, e4, kk, e5, q⟩ := h
      exact ⟨v, e1, i, j, e3, e4, kk, e5, hq _ _ q⟩
end
end Cc

/-! super().m(..) in a method of a class of the program: the method's promise is got with its statements read one by one, as super() asks which code runs. -/
namespace Cc
open PySem PySem.Spec PyProof.Rows L2
/-- what the method at f whose text says super() stands on: its class at D, in the cell at cc, its code's record at cda -/
structure SupF (P : Program) (K : PySem.W.Frag) (mg : Str → Option Value) (D cc cda : Addr) : Prop where
  cell : ∃ cl cld csl, K.lookup cc = some ⟨cl, cld, .cell (some (.ref D)), csl⟩
  code : ∃ ccl cdd vs ccs file tf, K.lookup cda = some ⟨ccl, cdd, .fields vs, ccs⟩ ∧ vs[2]? = some (.str file tf) ∧ ((P.main.file : Str) == file) = true
  cls : ∃ cd, PySem.W.clsIn K D = some cd
  opq : PySem.W.nsIn K cStatics "thirdparty.any" = some none
  top : (P.main.scope.names.lookup ("super" : Str)).isSome = false
  no : mg "super" = none
/-- .. told of an instance of the class at C: what super() finds behind D -/
structure SupC (K : PySem.W.Frag) (C D : Addr) (m : Str) (g : Addr) : Prop where
  sub : PySem.W.mroIn K C (.ref D) = some true
  at_ : PySem.W.ks_superIn K C D m = some (some (.ref g))
  ty : PySem.W.typeIn K (.ref g) = some (.type "function")
  fi : PySem.W.fnIn K g = true
abbrev envS (qual : Str) (scope : Scope) (L f cda cc : Addr) : Env := PySem.W.ksEnv qual scope L f (.ref cda) cc
/-- the context of such a method's body -/
def cxS (CX : CXT) (P : Program) (w : World) (K : PySem.W.Frag) (mg : Str → Option Value) (base : Heap) (N : List Str) (qual : Str) (scope : Scope) (f cda cc : Addr) (A : Around) (outer : List Env) (s : Shared) (H : Hp) (E : XK) : Cx where
  prog := P
  w := w
  K := K
  mg := mg
  base := base
  A := A.deeper (envS qual scope s.heap.objs.size f cda cc)
  N := N
  s_0 := s
  H_0 := H
  env := envS qual scope s.heap.objs.size f cda cc
  outer := outer
  stack := envS qual scope s.heap.objs.size f cda cc :: outer
  ex := []
  calm := true
  fn := fun _ => false
  pn := []
  xe := fun e z => wpAny (model P w) (A.deeper (envS qual scope s.heap.objs.size f cda cc)) (leaving (envS qual scope s.heap.objs.size f cda cc) e) (fun _ z2 => CX outer H s E e z2) (fun e2 z2 => CX outer H s E e2 z2) z
structure ScopeS (N ps : List Str) (sc : Scope) : Prop where
  kind : sc.kind = .function
  co : sc.isCoroutine = false
  gen : sc.isGenerator = false
  nd : N.Nodup
  pre : N.take ps.length = ps
  locs : ∀ y ∈ ps, sc.names.lookup y = some .local
  plain : ∀ z ∈ sc.names, z.2 ≠ .cell
  free : ∀ y ∈ sc.names, y.2 = .free → y.1 = "__class__"
theorem lookup_once {α : Type} {y : Str} {u : α} : ∀ {l : List (Str × α)}, (l.map (·.1)).Nodup → (y, u) ∈ l → l.lookup y = some u
  | (z, v) :: r, nd, m => by
    rw [List.lookup]
    by_cases e : y = z
    · subst e
      rw [beq_self_eq_true]
      rcases List.mem_cons.mp m with q | q
      · injection q with _ q
        rw [q]
      · exact absurd (List.mem_map.mpr ⟨_, q, rfl⟩) (List.nodup_cons.mp nd).1
    · rw [beq_eq_false_iff_ne.mpr e]
      refine lookup_once (List.nodup_cons.mp nd).2 ((List.mem_cons.mp m).resolve_left fun q => ?_)
      injection q with q
      exact e q
theorem fst_zip : ∀ (ps : List Str) (us : List Value), ((ps.zip us).map (·.1)).Sublist ps
  | [], _ => List.Sublist.slnil
  | p :: ps, [] => List.nil_sublist _
  | p :: ps, u :: us => (fst_zip ps us).cons₂ p
theorem zip_at {ps : List Str} {us : List Value} {i : Nat} {y : Str} {u : Value} (nd : ps.Nodup) (hp : ps[i]? = some y) (hu : us[i]? = some u) : (ps.zip us).reverse.lookup y = some u := by
  refine lookup_once ?_ (List.mem_reverse.mpr (List.mem_of_getElem? (i := i) (by rw [List.getElem?_zip_eq_some]; exact ⟨hp, hu⟩)))
  rw [List.map_reverse]
  exact List.pairwise_reverse.mpr ((nd.sublist (fst_zip ps us)).imp Ne.symm)
theorem one_cell {x : Str} {c cc : Addr} (h : ([("__class__", cc)] : List (Str × Addr)).lookup x = some c) : x = "__class__" ∧ c = cc := by
  rw [List.lookup] at h
  by_cases e : x = ("__class__" : Str)
  · subst e
    rw [beq_self_eq_true] at h
    exact ⟨rfl, (Option.some.inj h).symm⟩
  · rw [beq_eq_false_iff_ne.mpr e] at h
    exact nomatch h
section
variable {CX : CXT} {P : Program} {w : World} {K : PySem.W.Frag} {mg : Str → Option Value} {base : Heap} {N ps : List Str} {name qual : Str} {scope : Scope} {f cda cc D : Addr} {A : Around} {outer : List Env} {s : Shared} {H : Hp} {E : XK} {us : List Value} {vs : List V}
theorem inv_startS (S : ScopeS N ps scope) (SF : SupF P K mg D cc cda) (hd : A.handled = none) (e0 : Env0 P w K mg base A outer s H) (hl : vs.length = ps.length) (r : Vals vs us) {h1 : Heap} {tk : Nat} (ns : h1.Ns s.heap.objs.size fun y => (ps.zip us).reverse.lookup y)
    (kp : ∀ b o, s.heap.get? b = some o → h1.get? b = some o) : Inv (cxS CX P w K mg base N qual scope f cda cc A outer s H E) [] (start N vs) H { s with heap := h1, toks := tk } := by
  obtain ⟨cl, cld, csl, hcell⟩ := SF.cell
  have inBase := e0.mod.kin _ _ hcell
  have pl : ps.length ≤ N.length := by
    have few := congrArg List.length S.pre
    rw [List.length_take] at few
    omega
  have okX : (cxS CX P w K mg base N qual scope f cda cc A outer s H E).Ok := by
    refine ⟨e0.mod, S.kind, rfl, rfl, Nat.le_refl _, fun x y c h1 h2 => (one_cell h1).1.trans (one_cell h2).1.symm, fun x hx => ?_, (fun _ _ h => nomatch h), fun _ => hd, Around.frames_deeper e0.frames, .inr ⟨rfl, rfl⟩, fun _ z => (nomatch z), e0.bs, e0.bsz, (fun _ _ _ z => nomatch z), fun _ z => (nomatch z), e0.funs, e0.frf⟩
    rcases hx with q | q
    · exact absurd rfl (S.plain _ (PySem.mem_of_lookup q))
    · have e : x = ("__class__" : Str) := S.free _ (PySem.mem_of_lookup q) rfl
      subst e
      exact ⟨cc, by show ([("__class__", cc)] : List (Str × Addr)).lookup ("__class__" : Str) = some cc; rw [List.lookup, beq_self_eq_true]⟩
  refine ⟨okX, rfl, e0.bare, Un.kept kp, ⟨_, ns, fun i y v hN hs hv => ?_⟩, fun x c h => ?_, e0.hok.fresh (Nat.le_refl _), fun x c h => ?_, fun _ z => (nomatch z), e0.hok.kept kp, ?_⟩
  · have given : i < vs.length := by
      refine Nat.lt_of_not_le fun le => ?_
      have hs : (vs.map some ++ List.replicate (N.length - vs.length) none)[i]? = some (some v) := hs
      rw [List.getElem?_append_right (by rw [List.length_map]; exact le), List.getElem?_replicate] at hs
      split at hs <;> exact nomatch hs
    have hv2 : vs[i]? = some v := by
      have hs : (vs.map some ++ List.replicate (N.length - vs.length) none)[i]? = some (some v) := hs
      rw [List.getElem?_append_left (by rw [List.length_map]; exact given), List.getElem?_map] at hs
      rw [List.getElem?_eq_getElem given] at hs ⊢
      exact congrArg _ (Option.some.inj (Option.some.inj hs))
    obtain ⟨u, hu, rv⟩ := r.get hv2
    have named : ps[i]? = some y := S.pre ▸ (List.getElem?_take_of_lt (by omega)).trans hN
    have once : ps.Nodup := S.pre ▸ S.nd.sublist (List.take_sublist ps.length N)
    exact ⟨u, rv, .inl ⟨S.locs y (List.mem_of_getElem? named), zip_at once named hu⟩⟩
  · obtain ⟨rfl, rfl⟩ := one_cell h
    exact ⟨_, _, kp _ _ (e0.bs _ _ inBase).1, rfl⟩
  · obtain ⟨rfl, rfl⟩ := one_cell h
    exact (e0.bs _ _ inBase).2
  · show (vs.map some ++ List.replicate (N.length - vs.length) none).length = N.length
    simp only [List.length_append, List.length_map, List.length_replicate]
    omega
end
/-- statements of the def whose body is full, read where super() may be said -/
structure PSA (X : Cx) (full b : List Stmt) (t : TS) : Prop where
  run : ∀ (pins : List (Addr × Obj)) (s : Shared) (σ : L2.St) (H : Hp) (De : Ends), Inv X pins σ H s → t De σ H → _root_.PySem.wpAt (model X.prog X.w) X.A (.func full X.env) (execs b X.env) (SP X pins De) X.xe s
section
variable {X : Cx} {full b r : List Stmt} {st : Stmt} {t u : TS}
theorem psa_of (h : PSs X b t) : PSA X full b t := ⟨fun pins s σ H De I q => wpAt_of_wpAny (h.run pins s σ H De I q)⟩
theorem psa_cons (h : PS X st t) (hr : PSA X full r u) : PSA X full (st :: r) (tSeq t u) := ⟨fun pins s σ H De I q => PySem.ks_wpAt_execs_cons (wpAt_of_wpAny (wpAny_mono (h.run pins s σ H _ I q) (fun fl z hz => by
  cases fl with
  | next => exact let ⟨σ', H', J, q'⟩ := hz; hr.run pins z σ' H' De J q'
  | brk => exact hz
  | cont => exact hz
  | ret v => exact hz) fun _ _ q => q))⟩
end
def tSup (K : PySem.W.Frag) (D : Addr) (m : Str) (g : Addr) (sp : Sp) (E : XK) (t : TA) : TS := fun De σ H => ∃ (x C dx : Addr) (fs : List (Str × V)), σ[0]? = some (some (.ref x)) ∧ H x = some (.ins C dx fs) ∧ SupC K C D m g ∧
  ∀ q, H q = none → t σ (upd H q (.met g x)) fun vs H' => H' q = some (.met g x) ∧ sp (.ref x :: vs) H' (fun _ H2 => De.nx σ H2) E
section
variable {P : Program} {w : World} {K : PySem.W.Frag} {mg : Str → Option Value} {base : Heap} {CX CX2 : CXT} {k : Nat} {N : List Str} {qual m : Str} {scope : Scope} {f cda cc D g : Addr} {A : Around} {outer : List Env} {s0 : Shared} {H0 : Hp} {E E2 : XK} {sp : Sp} {full r : List Stmt} {e : Expr} {es : List Expr} {p0 p1 apos cpos epos : Pos} {t : TA} {u : TS}
  {oc : Value} {od : Option Addr} {osl : Array (Option Value)} {fd : FuncData} {ar : Arg}
/-- super().m(e, ..), the first parameter self -/
theorem psa_super (SF : SupF P K mg D cc cda) (lk : K.lookup f = some ⟨oc, od, .func fd, osl⟩) (hp : (fd.params.posonlyargs ++ fd.params.args).head? = some ar) (h0 : N[0]? = some ar.arg) (hl : scope.names.lookup ar.arg = some .local) (hs : scope.names.lookup ("super" : Str) = some .globalImplicit) (hc : scope.names.lookup ("__class__" : Str) = some .free) (hk : scope.kind = .function)
    (F : FnR P w K mg base CX2 k g sp) (hr : Room k (A.deeper (envS qual scope s0.heap.objs.size f cda cc))) (hx : Passes CX2 (cxS CX P w K mg base N qual scope f cda cc A outer s0 H0 E) E2) (ha : PA (cxS CX P w K mg base N qual scope f cda cc A outer s0 H0 E) (e :: es) t)
    (hr2 : PSA (cxS CX P w K mg base N qual scope f cda cc A outer s0 H0 E) full r u) (hm : (m == ("__class__" : Str)) = false := by decide) (hmi : (m == ("super" : Str)) = false := by decide)
    (hst : starEach (e :: es) (envS qual scope s0.heap.objs.size f cda cc) = (false, eval e (envS qual scope s0.heap.objs.size f cda cc)) :: starEach es (envS qual scope s0.heap.objs.size f cda cc) := by rfl) (hpl : (backTo cpos (starEach es (envS qual scope s0.heap.objs.size f cda cc))).any (·.1) = false := by rfl)
    (hin : interactive (envS qual scope s0.heap.objs.size f cda cc) = false := by rfl) (hsw : swapsWith (.Call (.Attribute (.Call (.Name "super" p0) [] [] p1) m apos) (e :: es) [] cpos) none epos.line (envS qual scope s0.heap.objs.size f cda cc) = pure false := by rfl) {pl : Sem Bool}
    (hev : eval (.Call (.Attribute (.Call (.Name "super" p0) [] [] p1) m apos) (e :: es) [] cpos) (envS qual scope s0.heap.objs.size f cda cc) = (do
      let ov ← attributeBase (.Call (.Name "super" p0) [] [] p1) m (envS qual scope s0.heap.objs.size f cda cc) (eval (.Call (.Name "super" p0) [] [] p1) (envS qual scope s0.heap.objs.size f cda cc))
      standAt apos.atName
      let (fn, first) ← holding [ov] (getMethod ov m pl)
      callWith cpos fn first (backTo cpos (starEach (e :: es) (envS qual scope s0.heap.objs.size f cda cc))) []) := by rfl) :
    PSA (cxS CX P w K mg base N qual scope f cda cc A outer s0 H0 E) full (.Expr (.Call (.Attribute (.Call (.Name "super" p0) [] [] p1) m apos) (e :: es) [] cpos) epos :: r) (tSeq (tSup K D m g sp E2 t) u) := by
  refine ⟨fun pins z σ H De I hq => ?_⟩
  obtain ⟨x, C, dx, fs, hself, hx0, SC, hargs⟩ := hq
  obtain ⟨cl, cld, csl, hcell⟩ := SF.cell
  obtain ⟨ccl, cdd, vs, ccs, file, tf, hcode, hvs, hfile⟩ := SF.code
  obtain ⟨cdD, hD⟩ := SF.cls
  obtain ⟨hh, gg, dd, tt, oo⟩ := z
  have KX : K.In hh := I.kIn
  obtain ⟨mb, hb1, hb2⟩ := I.mod.blt
  obtain ⟨mm, hns, hlook⟩ := I.loc
  obtain ⟨us, rself, look⟩ := hlook 0 ar.arg (.ref x) h0 hself (.inl hl)
  obtain rfl : us = Value.ref x := rself
  have hv : mm ar.arg = some (.ref x) := by
    rcases look with q | ⟨q | q, _⟩
    · exact q.2
    · exact nomatch hl.symm.trans q
    · exact nomatch hl.symm.trans q
  obtain ⟨mA, O, _, _, _, _⟩ := ins_get I.hok hx0
  obtain ⟨odx, J, _⟩ := O.look
  obtain ⟨oD, hD1, hD2⟩ : ∃ y, hh.get? D = some y ∧ y.data = .cls cdD := by
    unfold PySem.W.clsIn at hD
    split at hD
    · rename_i c d cd' sl ho
      cases hD
      exact ⟨_, KX _ _ ho, rfl⟩
    · cases hD
  refine PySem.ks_wpAt_execs_cons (PySem.ks_wpAt_Expr_any (PySem.ks_wpAt_MethodCall ?_ hev) hin hsw)
  refine PySem.ks_wpAt_super_base (f := f) (cc := cda) hs hc hm rfl (KX _ _ lk) rfl hp rfl (KX _ _ hcode) rfl hvs hfile SF.top ?_
  refine PySem.W.ks_loadName_global hk hs (Calls.loadGlobal_builtin (I.mod.glob.keeps I.bk) SF.no (hb1.keeps I.bk) ((hb2 _ (by decide)).trans (by rfl)) ⟨rfl, ?_⟩)
  refine wpAny_loadName_free hk hc (by show ([("__class__", cc)] : List (Str × Addr)).lookup ("__class__" : Str) = some cc; rw [List.lookup, beq_self_eq_true]) ⟨_, KX _ _ hcell, rfl⟩ ?_
  refine wpAny_loadName_local hk hl hns hv ?_
  refine PySem.ks_wpAny_isType_cls hD1 hD2 ⟨rfl, ?_⟩
  refine PySem.ks_wpAny_call_super hD1 hD2 J.at_ J.cls (fun c e => ?_) (PySem.W.looks_mroIn KX SC.sub) (fun h1 e1 k1 => ?_)
  · have q := J.no
    unfold PySem.W.notCls at q
    rw [e] at q
    exact nomatch q
  obtain ⟨cdC, hC, hal⟩ : ∃ cdC, PySem.W.clsIn K C = some cdC ∧ PySem.W.alongIn K m ((cdC.mro.dropWhile (· != .ref D)).drop 1) = some (some (.ref g)) := by
    have q := SC.at_
    unfold PySem.W.ks_superIn at q
    cases y : PySem.W.clsIn K C with
    | none => rw [y] at q; exact nomatch q
    | some cd => rw [y] at q; exact ⟨cd, rfl, q⟩
  obtain ⟨og, hog, hgt⟩ : ∃ og, hh.get? g = some og ∧ og.cls = .type "function" := by
    have q : (K.lookup g).map (·.cls) = some (.type "function") := SC.ty
    cases y : K.lookup g with
    | none => rw [y] at q; exact nomatch q
    | some o => rw [y] at q; exact ⟨o, KX _ _ y, Option.some.inj q⟩
  have K1 : K.In h1 := KX.keeps k1
  refine PySem.ks_wpAny_getMethod_super e1 (PySem.W.looks_opaque K1 SF.opq) (l₀ := cdC.mro) (fun A Q E s k q => wpAny_bind ((PySem.W.looks_clsIn K1 hC) A _ E s k (wpAny_pure q))) rfl K1 hal (k1 _ _ hog) hgt (PySem.W.ks_ne KX J hC) hm ?_
  have lt1 : hh.objs.size < h1.objs.size := Heap.lt_size e1
  have fresh : H h1.objs.size = none := I.hok.fresh (Nat.le_of_lt lt1)
  have I1 : Inv (cxS CX P w K mg base N qual scope f cda cc A outer s0 H0 E) pins σ (upd H h1.objs.size (.met g x)) ⟨h1.push { cls := .type "method", data := .fields #[.ref g, .ref x] }, gg, dd, tt + 1, oo⟩ :=
    I.laid (t' := tt + 1) (a := h1.objs.size) (o := .met g x) (fun b u y => Heap.get?_push_of_some _ (k1 b u y)) (Nat.le_of_lt lt1) (show (h1.push (PySem.W.methodObj (.ref g) (.ref x))).get? h1.objs.size = some (PySem.W.methodObj (.ref g) (.ref x)) from Heap.get?_push_size h1 rfl)
  refine callwith_met (X := cxS CX P w K mg base N qual scope f cda cc A outer s0 H0 E) (q := h1.objs.size) (g := g) (a := x) ?_ SC.fi ?_
  · show ((backTo cpos (starEach (e :: es) (envS qual scope s0.heap.objs.size f cda cc))).any (·.1) || false) = false
    rw [hst]
    show ((false || (backTo cpos (starEach es (envS qual scope s0.heap.objs.size f cda cc))).any (·.1)) || false) = false
    rw [hpl]
    rfl
  show wpAny _ _ (evalArgs (.ref h1.objs.size) true (backTo cpos (starEach (e :: es) (envS qual scope s0.heap.objs.size f cda cc))) []) _ _ _
  obtain ⟨one, hone⟩ : ∃ one, backTo cpos (starEach (e :: es) (envS qual scope s0.heap.objs.size f cda cc)) = (false, one) :: backTo cpos (starEach es (envS qual scope s0.heap.objs.size f cda cc)) := by
    rw [hst]
    exact ⟨_, rfl⟩
  rw [hone]
  refine Calls.evalArgs_plain ?_
  rw [← hone]
  refine thn (ha.run cpos pins _ σ _ _ I1 (hargs _ fresh)) fun us s2 ⟨vs2, H2, I2, rv, hm2, hsp⟩ => ⟨met_P I2 hm2, ?_⟩
  refine wpAny_call (PySem.W.method_call (met_P I2 hm2).1 (codeAny_mono (run_fnR (us := Value.ref x :: us) (vs := V.ref x :: vs2) F hr hx I2 (.cons rfl rv) hsp) fun res s3 q => ?_))
  cases res with
  | error e => exact q
  | ok fl =>
    cases fl with
    | ret u => exact let ⟨_, H3, I3, _, q3⟩ := q; hr2.run pins s3 σ H3 De I3 q3
    | next => exact q.elim
    | brk => exact q.elim
    | cont => exact q.elim
end
section
variable {CX : CXT} {P : Program} {w : World} {K : PySem.W.Frag} {mg : Str → Option Value} {base : Heap} {k : Nat} {f cda cc D : Addr} {name qual : Str} {params : Arguments} {body : List Stmt} {scope : Scope} {dV kV doc pm ct oc : Value} {an od : Option Addr} {osl : Array (Option Value)} {N ps : List Str} {sp : Sp}
/-- a method whose text says super(), by its statements -/
theorem fn_ofS (lk : K.lookup f = some ⟨oc, od, .func (PySem.W.ksFn name qual params body scope dV kV doc pm an (.ref cda) ct cc), osl⟩) (hcd : PySem.W.codeIn K (.ref cda) qual = true) (S : ScopeS N ps scope) (SF : SupF P K mg D cc cda) (len : ∀ vs H Q E, sp vs H Q E → vs.length = ps.length)
    (hbody : ∀ (A : Around) (outer : List Env) (s : Shared) (H : Hp) (vs : List V) (Q : VK) (E : XK), Room k (A.deeper (envS qual scope s.heap.objs.size f cda cc)) → sp vs H Q E →
      ∃ t, PSA (cxS CX P w K mg base N qual scope f cda cc A outer s H E) body body t ∧ t { nx := fun _ H' => Q .non H', rt := Q } (start N vs) H) :
    FnOk P w K mg base CX (k + 1) f (PySem.W.ksFn name qual params body scope dV kV doc pm an (.ref cda) ct cc) ps sp := by
  refine ⟨len, fun A outer s H args us vs Q E hr e0 bound r hsp => ?_⟩
  have old := fun b o e => (e0.bs b o e).1
  have KX := e0.mod.kin.keeps old
  have lim := e0.mod.nolimit.keeps old
  refine PySem.ks_codeAny_call_defAt (body := body) hr.depth (KX _ _ lk) rfl lim (PySem.W.codeRec_of KX hcd) rfl bound S.plain (fun y hy => S.locs _ (List.of_mem_zip hy).1) (fun h1 ns kp => ?_) S.co S.gen S.kind
  obtain ⟨t, run, hq⟩ := hbody A outer s H vs Q E (hr.deeper _) hsp
  have I := inv_startS (CX := CX) (w := w) (N := N) (qual := qual) (scope := scope) (f := f) (E := E) S SF hr.hd e0 (len _ _ _ _ hsp) r (tk := s.toks + (ps.zip us).length) ns kp
  refine PySem.ks_wpAt_mono (run.run [] _ (start N vs) H _ I hq) (fun fl z hz => ?_) fun _ _ q => q
  have ends : ∀ {σ' : L2.St} {H' : Hp} {v : V} {u : Value}, Inv (cxS CX P w K mg base N qual scope f cda cc A outer s H E) [] σ' H' z → RelV v u → Q v H' → CE outer P w H s Q u z := fun {σ' H' v u} J rv q => ⟨v, H', J.os, J.bare, J.base, J.hok, rv, q⟩
  cases fl with
  | ret u => exact let ⟨v, σ', H', J, rv, q⟩ := hz; ends J rv q
  | next => exact let ⟨σ', H', J, q⟩ := hz; ends (v := V.non) (u := Value.none) J rfl q
  | brk => exact let ⟨_, _, _, q⟩ := hz; q.elim
  | cont => exact let ⟨_, _, _, q⟩ := hz; q.elim
end
section
variable {CX : CXT} {P : Program} {w : World} {K : PySem.W.Frag} {mg : Str → Option Value} {base : Heap} {k : Nat} {f cda cc D : Addr} {name qual pv : Str} {params : Arguments} {body : List Stmt} {scope : Scope} {dV kV doc pm ct oc : Value} {an od : Option Addr} {osl : Array (Option Value)} {N ps : List Str} {sp : Sp}
/-- .. whose parameters are bound with objects made -/
theorem run_bndS {A : Around} {outer : List Env} {s : Shared} {H : Hp} {args : Args} {Q : VK} {E : XK} {G : List V → Hp → Prop} (lk : K.lookup f = some ⟨oc, od, .func (PySem.W.ksFn name qual params body scope dV kV doc pm an (.ref cda) ct cc), osl⟩) (hcd : PySem.W.codeIn K (.ref cda) qual = true) (S : ScopeS N ps scope) (SF : SupF P K mg D cc cda) (hr : Room (k + 1) A) (e0 : Env0 P w K mg base A outer s H)
    (hb : StX.Bnd CX P w K mg base (PySem.W.ksFn name qual params body scope dV kV doc pm an (.ref cda) ct cc) args ps A outer s H E G)
    (hbody : ∀ (z : Shared) (H2 : Hp) (vs : List V), G vs H2 → Room k (A.deeper (envS qual scope z.heap.objs.size f cda cc)) → ∃ t, PSA (cxS CX P w K mg base N qual scope f cda cc A outer z H2 E) body body t ∧ t { nx := fun _ H' => Q .non H', rt := Q } (start N vs) H2) :
    codeAny (model P w) A (Code.call (.ref f) args) (CR CX outer P w H s Q E) s := by
  have KX := e0.mod.kin.keeps fun b o e => (e0.bs b o e).1
  refine codeAny_call_function hr.depth (KX _ _ lk) rfl S.co S.gen rfl (PySem.W.codeRec_of KX hcd) (hb _ _ _ fun z H2 vs us e2 un os hx r hl g => ?_)
  refine wpAny_newFunctionEnv S.plain (fun y hy => S.locs _ (List.of_mem_zip hy).1) (fun h1 ns sb => ?_) S.kind
  have old : ∀ b o, z.heap.get? b = some o → h1.get? b = some o := fun b o e => sb.extBut b o (Nat.ne_of_lt (Heap.lt_size e)) (Heap.get?_push_of_some _ e)
  refine ⟨e0.mod.nolimit.keeps fun b o e => old b o (e2.bs b o e).1, PySem.ks_codeAny_funcAt ?_⟩
  obtain ⟨t, run, hq⟩ := hbody z H2 vs g (hr.deeper _)
  have I := inv_startS (CX := CX) (w := w) (N := N) (qual := qual) (scope := scope) (f := f) (E := E) S SF hr.hd e2 hl r (tk := z.toks + (ps.zip us).length) ns old
  refine PySem.ks_wpAt_mono (run.run [] _ (start N vs) H2 _ I hq) (fun fl z2 hz => ?_) fun e z2 q => wpAny_mono q (fun _ z3 q => hx e z3 q) fun e2 z3 q => hx e2 z3 q
  have ends : ∀ {σ' : L2.St} {H' : Hp} {v : V} {u : Value}, Inv (cxS CX P w K mg base N qual scope f cda cc A outer z H2 E) [] σ' H' z2 → RelV v u → Q v H' → CE outer P w H s Q u z2 := fun {σ' H' v u} J rv q => ⟨v, H', J.os.trans os, J.bare, un.trans J.base, J.hok, rv, q⟩
  cases fl with
  | ret u => exact let ⟨v, σ', H', J, rv, q⟩ := hz; ends J rv q
  | next => exact let ⟨σ', H', J, q⟩ := hz; ends (v := V.non) (u := Value.none) J rfl q
  | brk => exact let ⟨_, _, _, q⟩ := hz; q.elim
  | cont => exact let ⟨_, _, _, q⟩ := hz; q.elim
/-- def m(self, *xs) whose text says super() -/
theorem fn_starS (lk : K.lookup f = some ⟨oc, od, .func (PySem.W.ksFn name qual params body scope dV kV doc pm an (.ref cda) ct cc), osl⟩) (hcd : PySem.W.codeIn K (.ref cda) qual = true) (S : ScopeS N (ps ++ [pv]) scope) (SF : SupF P K mg D cc cda) (hCX : StX.CXUp CX)
    (hb : ∀ us rest : List Value, us.length = ps.length → bindArgs (PySem.W.ksFn name qual params body scope dV kV doc pm an (.ref cda) ct cc) ⟨us ++ rest, []⟩ = (newTuple rest >>= fun t => pure (ps.zip us ++ [(pv, t)])))
    (hbody : ∀ (A : Around) (outer : List Env) (s : Shared) (H : Hp) (vs : List V) (Q : VK) (E : XK), Room k (A.deeper (envS qual scope s.heap.objs.size f cda cc)) → sp vs H Q E →
      ∃ t, PSA (cxS CX P w K mg base N qual scope f cda cc A outer s H E) body body t ∧ t { nx := fun _ H' => Q .non H', rt := Q } (start N vs) H) :
    FnR P w K mg base CX (k + 1) f (fun vs H Q E => ∃ ws rest, vs = ws ++ rest ∧ ws.length = ps.length ∧ rest.length ≤ sizeLine ∧ ∀ p : Addr, H p = Option.none → sp (ws ++ [V.ref p]) (upd H p (.tup rest)) Q E) := by
  rintro A outer s H us _ Q E hr e0 r ⟨ws, rest, rfl, hl, hz, hq⟩
  obtain ⟨u1, u2, rfl, r1, r2⟩ := StX.vals_split r
  have first : u1.length = ps.length := r1.length.symm.trans hl
  have new : H s.heap.objs.size = Option.none := e0.hok.fresh (Nat.le_refl _)
  refine run_bndS lk hcd S SF hr e0 (G := fun xs H2 => ∃ p, H p = Option.none ∧ xs = ws ++ [V.ref p] ∧ H2 = upd H p (.tup rest)) (fun A' Ex Q' h => ?_) fun z H2 xs ⟨p, hp, ex, eH⟩ room => ?_
  · have laid : ObjOk P w (upd H s.heap.objs.size (.tup rest)) (s.heap.push ({ cls := .type "tuple", data := .seq u2.toArray } : Obj)) s.heap.objs.size (.tup rest) := ⟨hz, u2, r2, ⟨_, Heap.get?_push_size _ rfl, rfl, _, rfl⟩⟩
    have un := StX.un_laid (fs := frs outer) (s := s) (o := ({ cls := .type "tuple", data := .seq u2.toArray } : Obj)) (u := .tup rest) new
    rw [hb u1 u2 first]
    refine wpAny_bind (wpAny_newTuple (wpAny_pure ?_) (r2.length ▸ hz))
    have got := h _ _ (ws ++ [V.ref s.heap.objs.size]) (u1 ++ [Value.ref s.heap.objs.size]) (StX.env0_laid e0 laid) un rfl (fun e z => hCX outer s H _ _ E e z un (fun b o q => Heap.get?_push_of_some _ q) rfl) (r1.append (.cons rfl .nil)) (by simp [hl]) ⟨_, new, rfl, rfl⟩
    rw [List.zip_append first.symm] at got
    exact got
  · subst ex eH
    exact hbody A outer z _ _ Q E room (hq p hp)
end
end Cc

/-! yield from a list. -/
namespace Cc
open PySem PySem.Spec PyProof.Rows L2 GenW
section
variable {prog : Program} {w : World} {A : Around} {E : Value → Shared → Prop} {s : Shared} {it l : Addr} {i : Nat} {items : Array Value} {Q : Option Value → Shared → Prop}
/-- the list iterator's turn, up to what it finds -/
theorem listiter_turn {G : Option Value → Shared → Prop} (hit : s.heap.IsListIter it l i) (hl : s.heap.IsList l items)
    (k : ∀ x, items[i]? = some x → ∀ h', h'.IsListIter it l (i + 1) → Heap.SameBut it s.heap h' → G (some x) { s with heap := h' })
    (no : items[i]? = none → A.handled = none ∧ ∀ e h', StopX e h' → Heap.ExtBut it s.heap h' → E e { s with heap := h' }) : wpAny (model prog w) A (callSpecial? (.ref it) "__next__") G E s := by
  rcases hl with ⟨oL, atL, _, _, dL⟩
  rcases id hit with ⟨oI, atI, cI, dI⟩
  have isRef : (Value.ref l == Value.none) = false := rfl
  refine wpAny_callSpecial?_slot (name := Str.ofString "__next__") hit.typeIs slot_listiter_next (wpAny_call_entry slot_listiter_next hit.typeIs entry_listiter_next ?_ (args_listiter_next _))
  refine wpAny_bind (m := field (.ref it) 0) (wpAny_field atI dI (x := .ref l) rfl (show wpAny _ _ (if (Value.ref l == Value.none) = true then _ else _) _ _ s from ?_))
  simp only [isRef, Bool.false_eq_true, if_false]
  refine wpAny_bind (m := field (.ref it) 1) (wpAny_field atI dI (x := .int i 0) rfl (wpAny_bind (m := seqItems? (.ref l)) (wpAny_seqItems atL dL ?_)))
  cases got : items[i]? with
  | some x =>
    simp only [got, Int.toNat_natCast]
    refine wpAny_bind (wpAny_setField atI dI (by simp) (wpAny_pure ⟨x, rfl, k x got _ ⟨_, Heap.get?_update_self _ atI (Obj.isFreed_of_fields (Obj.data_mapFields dI _)), (Obj.cls_mapFields ..).trans cI, ?_⟩ (Heap.SameBut.update ..)⟩))
    rw [Obj.data_mapFields dI]
    simp [rawInt]
  | none =>
    obtain ⟨calm, stop⟩ := no got
    simp only [got, Int.toNat_natCast]
    refine wpAny_bind (wpAny_rule (wpAny_bind (wpAny_setField atI dI (by simp) (wpAny_bind (m := newExc (.type "StopIteration") []) ?_))))
    simp only [newExc, newTuple]
    refine wpAny_bind (wpAny_newObj_type (wpAny_bind (m := firstArgMember _ _) (wpAny_of_eq (a := Value.none) (by first | rfl | (simp only [firstArgMember]; rfl)) (wpAny_newObj_type ?_ (by size_fits)))) (by size_fits))
    simp only [raiseNew]
    apply wpAny_bind; apply wpAny_handled
    first | rw [show A.in1.handled = none from calm] | rw [calm]
    refine wpAny_bind (wpAny_pure (wpAny_throw (stop _ _ ⟨_, _, _, rfl, Heap.get?_push_size _ rfl, rfl, rfl, ?_⟩ (((Heap.SameBut.update ..).extBut.push _).push _))))
    first | rfl | (rw [Array.getElem?_append_left (by decide)]; rfl) | kernel_rfl
end
theorem close_lst : typeLookup (.type "list_iterator") "close" = pure none := by rw [typeLookup_type, builtinLookup_eq_fast]; kernel_rfl
def tYfLst (te : TE) : TYf := fun σ H Q => te σ H fun x H1 => ∃ a xs, x = .ref a ∧ H1 a = some (.lst xs) ∧ Q xs H1
theorem yf_lst {X : Cx} {e : Expr} {te : TE} (he : PE X e te) : YfE X e (tYfLst te) := by
  refine ⟨fun pins s σ H Q I h => thn (he.run pins s σ H _ I h) fun v s1 ⟨x, H1, I1, r1, a, xs, ex, ha, hq⟩ => ?_⟩
  subst ex
  cases (show v = Value.ref a from r1)
  obtain ⟨_, its, n, rits, hobj⟩ : xs.length ≤ sizeLine ∧ ∃ (its : List Value) (n : Nat), Vals xs its ∧ s1.heap.get? a = some { cls := .type "list", data := .seq its.toArray n } := I1.hok a _ ha
  have isL : s1.heap.IsList a its.toArray := ⟨_, hobj, rfl, n, rfl⟩
  have lens : its.length = xs.length := rits.length.symm
  have old : ∀ {b o}, s1.heap.get? b = some o → b ≠ s1.heap.objs.size := fun e => Nat.ne_of_lt (Heap.lt_size e)
  refine ⟨"list", isL.typeIs, by decide, wpAny_pyIter_list isL ⟨s1.heap.objs.size, H1, xs, fun j h => h.IsListIter s1.heap.objs.size a j ∧ h.IsList a its.toArray, rfl, I1.kept (t' := s1.toks) fun b o e => Heap.get?_push_of_some _ e, .inr I1.sz, Nat.ne_of_gt I1.lt, fun y c hy => ?_,
    I1.hok.fresh (Nat.le_refl _), fun p hp => old (I1.pin p hp).1, ⟨⟨_, Heap.get?_push_size _ rfl, rfl, rfl⟩, isL.push _⟩, ⟨⟨"list_iterator", fun j h q => ?_, close_lst, by decide⟩, fun j h h' q hk => ?_, fun A' j x s2 Q' E' hA hx q hQ => ?_, fun A' s2 Q' E' hA q hE => ?_⟩, hq⟩⟩
  · exact let ⟨_, o, ho, _⟩ := I1.cell y c hy; old ho
  · exact let ⟨⟨o, ho, hc, _⟩, _⟩ := q; ⟨o, ho, hc⟩
  · exact let ⟨⟨o, ho, r⟩, o2, ho2, r2⟩ := q; ⟨⟨o, hk _ o (.inl rfl) ho, r⟩, o2, hk _ o2 (.inr (by rw [ha]; exact fun z => nomatch z)) ho2, r2⟩
  · obtain ⟨u, hu, ru⟩ := rits.get hx
    have hu2 : its.toArray[j]? = some u := by simpa using hu
    refine listiter_turn q.1 q.2 (fun y hy h' i' sb => ?_) fun z => nomatch z.symm.trans hu2
    cases hu2.symm.trans hy
    exact hQ u h' s2.toks ru ⟨i', q.2.extBut sb.extBut (old hobj)⟩ fun b o hb eb => sb.extBut b o hb eb
  · have out : its.toArray[xs.length]? = none := by simp [lens]
    exact listiter_turn q.1 q.2 (fun y hy => nomatch out.symm.trans hy) fun _ => ⟨hA, fun e h' hS hk => hE e h' s2.toks hS fun b o hb eb => hk b o hb eb⟩
end Cc

/-! Fields by their place. -/
namespace Cc
open PySem PySem.Spec PyProof.Rows L2
theorem putF_skip {f g : Str} {v x : V} {r : List (Str × V)} (h : ¬ g = f) : putF f v ((g, x) :: r) = (g, x) :: putF f v r := if_neg h
theorem putF_hit {f : Str} {v x : V} {r : List (Str × V)} : putF f v ((f, x) :: r) = (f, v) :: r := if_pos rfl
theorem putF_nil {f : Str} {v : V} : putF f v [] = [(f, v)] := rfl
theorem lkS {f g : Str} {x : V} {r : List (Str × V)} {u : Option V} (h : (f == g) = false) (k : r.lookup f = u) : ((g, x) :: r).lookup f = u := by
  rw [List.lookup, h]
  exact k
theorem lkZ {f : Str} {x : V} {r : List (Str × V)} : ((f, x) :: r).lookup f = some x := by
  rw [List.lookup, beq_self_eq_true f]
theorem lkN {f : Str} : ([] : List (Str × V)).lookup f = none := rfl
end Cc

/-! What all bookings have in common. -/
namespace Cc
open PySem PySem.Spec PyProof.Rows L2 TL
structure BTxt (K : PySem.W.Frag) (C : Addr) : Prop where
  cl : Cls K C
  n1 : NoAttr K C "line_words"
  n2 : NoAttr K C "booked_steps"
/-- a tuple never changed: no heap that keeps the tuples changes it -/
def TupW (K : PySem.W.Frag) (H : Hp) (p : Addr) (xs : List V) : Prop := ∀ H', (∀ t xs, H t = some (.tup xs) → H' t = some (.tup xs)) → SqT K H' p xs
theorem TupW.of {K : PySem.W.Frag} {H : Hp} {p : Addr} {xs : List V} (h : H p = some (.tup xs)) : TupW K H p xs := fun _ k => SqT.of (k _ _ h)
theorem TupW.fix {K : PySem.W.Frag} {H H1 : Hp} {p : Addr} {xs : List V} (h : TupW K H p xs) (g : Fix H H1) : TupW K H1 p xs := fun H' k => h H' fun t xs e => k _ _ (g.1 _ _ e)
/-- a step, its tuple never changed -/
abbrev StepK (K : PySem.W.Frag) (H : Hp) (v : V) (s : Stp) : Prop := StepV K H v s
theorem StepK.fix {K : PySem.W.Frag} {H H1 : Hp} {v : V} {s : Stp} (h : StepK K H v s) (g : Fix H H1) : StepK K H1 v s := let ⟨t, a, b⟩ := h; ⟨t, a, TupW.fix b g⟩
abbrev bokL (lw bs : V) : List (Str × V) := [("line_words", lw), ("booked_steps", bs)]
/-- a booking of the class C, its words, its steps -/
def BookAt (K : PySem.W.Frag) (C : Addr) (H : Hp) (x : Addr) (ws : List Str) (ss : List Stp) : Prop := ∃ dx lw bs vs, H x = some (.ins C dx (bokL (.ref lw) (.ref bs))) ∧ H lw = some (.lst (ws.map V.str)) ∧ H bs = some (.lst vs) ∧ Paired (StepK K H) vs ss
theorem BookAt.same {K : PySem.W.Frag} {C : Addr} {H H1 : Hp} {x : Addr} {ws : List Str} {ss : List Stp} (h : BookAt K C H x ws ss) (s : Same H H1) : BookAt K C H1 x ws ss :=
  let ⟨dx, lw, bs, vs, a, b, c, d⟩ := h
  ⟨dx, lw, bs, vs, s _ _ a, s _ _ b, s _ _ c, Paired.mapP d fun _ _ z => z.fix (.of s)⟩
def spBkInit (C : Addr) : Sp := fun vs H Q _ => ∃ (x dx lw bs : Addr), vs = [.ref x, .ref lw, .ref bs] ∧ H x = some (.ins C dx []) ∧ ∀ H', But x H H' → H' x = some (.ins C dx (bokL (.ref lw) (.ref bs))) → Q .non H'
def spBkCount (K : PySem.W.Frag) (C : Addr) : Sp := fun vs H Q _ => ∃ (x : Addr) (ws : List Str) (ss : List Stp), vs = [.ref x] ∧ BookAt K C H x ws ss ∧ Q (.int (ss.length : Nat)) H
def spBkLine (K : PySem.W.Frag) (C : Addr) : Sp := fun vs H Q _ => ∃ (x : Addr) (ws : List Str) (ss : List Stp), vs = [.ref x] ∧ BookAt K C H x ws ss ∧ tot ws ≤ 100000 ∧ Q (.str (Txt.join " " ws)) H
def spPlanned (K : PySem.W.Frag) (C : Addr) : SpG := fun vs H Q _ => ∃ (x : Addr) (ws : List Str) (ss : List Stp), vs = [.ref x] ∧ BookAt K C H x ws ss ∧ ss.length ≤ 1000 ∧ ∀ us, Paired (StepK K H) us ss → Q us H
section
variable {P : Program} {w : World} {K : PySem.W.Frag} {mg : Str → Option Value} {base : Heap} {C CB TU pS gS : Addr} {mc : Value}
abbrev s_Booking___init__ : Stmt := inClass (top 26) 1
abbrev n_Booking___init__ : List Str := ["self", "words", "steps"]
theorem sc_Booking___init__ : FnScope n_Booking___init__ ["self", "words", "steps"] (defScope s_Booking___init__) := ⟨rfl, rfl, rfl, by decide +kernel, rfl, by decide +kernel, by decide +kernel⟩
theorem ok_Booking___init__ {f : Addr} {fd : FuncData} (F : Fun K "__init__" "Booking.__init__" s_Booking___init__ f fd) (O : BTxt K CB) : FnOk P w K mg base CX0 1 f fd ["self", "words", "steps"] (spBkInit CB) := by
  refine F.ok sc_Booking___init__ (fun vs H Q E h => ?_) (fun cdv A outer s H vs Q E hr h => ?_)
  · obtain ⟨x, dx, lw, bs, rfl, _⟩ := h
    rfl
  · obtain ⟨x, dx, lw, bs, rfl, e1, k⟩ := h
    refine ⟨_, pss_cons (ps_fld (pv 0) (pv 1) rfl)
      (pss_one (ps_fld (pv 0) (pv 2) rfl)), ?_⟩
    refine ⟨_, rfl, _, rfl, x, CB, dx, _, rfl, e1, O.cl, O.n1, by decide, ?_⟩
    rw [putF_nil]
    refine ⟨_, rfl, _, rfl, x, CB, dx, _, rfl, upd_same, O.cl, O.n2, by show 1 < 1000; decide, ?_⟩
    rw [putF_skip (by decide), putF_nil]
    exact k _ (fun b o z q => by rw [upd_ne z, upd_ne z]; exact q) upd_same
abbrev s_Booking_line : Stmt := inClass (top 26) 4
abbrev n_Booking_line : List Str := ["self"]
theorem sc_Booking_line : FnScope n_Booking_line ["self"] (defScope s_Booking_line) := ⟨rfl, rfl, rfl, by decide +kernel, rfl, by decide +kernel, by decide +kernel⟩
theorem ok_Booking_line {f : Addr} {fd : FuncData} (F : Fun K "line" "Booking.line" s_Booking_line f fd) (O : BTxt K CB) : FnOk P w K mg base CX0 1 f fd ["self"] (spBkLine K CB) := by
  refine F.ok sc_Booking_line (fun vs H Q E h => ?_) (fun cdv A outer s H vs Q E hr h => ?_)
  · obtain ⟨x, ws, ss, rfl, _⟩ := h
    rfl
  · obtain ⟨x, ws, ss, rfl, ⟨dx, lw, bs, vs, h1, h2, h3, h4⟩, ht, k⟩ := h
    refine ⟨_, pss_one (ps_ret (pe_join pe_str (pe_fld (pv 0) rfl))), ?_⟩
    refine ⟨⟨_, rfl⟩, _, rfl, x, CB, dx, _, _, rfl, h1, O.cl, O.n1, lkZ, " ", lw, ws, rfl, rfl, .inl (SqL.of h2), ?_, k⟩
    have e1 : Str.length " " = 1 := by decide +kernel
    have e2 := sum_len ws
    rw [e1]
    omega
abbrev s_Booking_planned : Stmt := inClass (top 26) 2
abbrev n_Booking_planned : List Str := ["self"]
theorem sc_Booking_planned : GScope n_Booking_planned ["self"] (defScope s_Booking_planned) := ⟨rfl, rfl, rfl, by decide +kernel, rfl, by decide +kernel, by decide +kernel⟩
theorem ok_Booking_planned {f : Addr} {fd : FuncData} (F : Fun K "planned" "Booking.planned" s_Booking_planned f fd) (O : BTxt K CB) : GFn P w K mg base 1 f fd ["self"] (spPlanned K CB) := by
  obtain ⟨oc, od, kV, doc, pm, an, cdv, ct, ol, rfl, lk, hcd⟩ := F.ex
  refine gfn_of lk hcd sc_Booking_planned (fun vs H Q E h => ?_) fun A outer s H vs Q E pn hr h => ?_
  · obtain ⟨x, ws, ss, rfl, _⟩ := h
    rfl
  · obtain ⟨x, ws, ss, rfl, ⟨dx, lw, bs, vs, h1, h2, h3, h4⟩, hl, k⟩ := h
    have lv : vs.length = ss.length := Paired.length h4
    refine ⟨_, gss_cons (gs_yieldFrom (yf_lst (pe_fld (pv 0) rfl)) hr.hd) gss_nil, ?_⟩
    exact ⟨_, rfl, x, CB, dx, _, _, rfl, h1, O.cl, O.n2, lkS (by decide) lkZ, bs, vs, rfl, h3, by show 0 + vs.length ≤ sizeLine; rw [sizeLine_eq]; omega, k vs h4⟩
end
end Cc

/-! Attributes as targets; a tuple taken apart within an except suite. -/
namespace HotX
open PySem PySem.Builtin PyProof.V Sem PySem.Spec PyProof.Rows
section
variable {prog : Program} {w : World} {A : Around} {E : Value → Shared → Prop} {s : Shared}
/-- nothing is left: StopIteration, made where an exception without context is handled, is let in -/
theorem tuple_end_hot {it t x1 : Addr} {i : Nat} {items : Array Value} {Q : Option Value → Shared → Prop} (hot : HotAt A x1 s.heap) (hit : s.heap.IsTupleIter it t i) (ht : s.heap.IsTuple t items) (hx : items[i]? = none) (n1 : x1 ≠ it)
    (k : ∀ h', Heap.ExtBut it s.heap h' → Q none { s with heap := h' }) : wpAny (model prog w) A (pyNext (.ref it)) Q E s := by
  rcases hot with ⟨han, oX, fX, atX, dX, noneX⟩
  rcases ht with ⟨oT, atT, _, _, dT⟩
  rcases id hit with ⟨oI, atI, _, dI⟩
  have isRef : (Value.ref t == Value.none) = false := rfl
  unfold pyNext
  refine wpAny_bind (wpAny_attempt (wpAny_callSpecial?_slot (name := Str.ofString "__next__") hit.typeIs F.slot_tuple_iterator_next (wpAny_call_entry F.slot_tuple_iterator_next hit.typeIs F.entry_tuple_iterator_next ?_ (F.args_tuple_iterator_next_1 _))))
  refine wpAny_bind (m := field (.ref it) 0) (wpAny_field atI dI (x := .ref t) rfl (show wpAny _ _ (if (Value.ref t == Value.none) = true then _ else _) _ _ s from ?_))
  simp only [isRef, Bool.false_eq_true, if_false]
  refine wpAny_bind (m := field (.ref it) 1) (wpAny_field atI dI (x := .int i 0) rfl (wpAny_bind (m := seqItems? (.ref t)) (wpAny_seqItems atT dT ?_)))
  simp only [hx, Int.toNat_natCast]
  refine wpAny_bind (wpAny_rule (wpAny_bind (wpAny_setField atI dI (by simp) (wpAny_bind (m := newExc (.type "StopIteration") []) ?_))))
  have other : ∀ {y o}, y ≠ it → s.heap.get? y = some o → (s.heap.update it (Obj.mapFields (·.setIfInBounds 0 Value.none))).get? y = some o := fun ne e => (Heap.get?_update_other s.heap _ (Ne.symm ne)).trans e
  simp only [newExc, newTuple]
  refine wpAny_bind (wpAny_newObj_type (wpAny_bind (m := firstArgMember _ _) (wpAny_of_eq (a := Value.none) (by first | rfl | (simp only [firstArgMember]; rfl)) (wpAny_newObj_type ?_ (by size_fits)))) (by size_fits))
  refine raiseNew_hot ⟨han, oX, fX, Heap.get?_push_of_some _ (Heap.get?_push_of_some _ (other n1 atX)), dX, noneX⟩ (Nat.ne_of_lt (Heap.lt_size (Heap.get?_push_of_some _ (other n1 atX)))) (Heap.get?_push_size _ rfl) rfl (by first | (simp; done) | (simp; omega) | (simp only [Array.size_append]; simp; omega)) ?_
  refine wpAny_bind (wpAny_isInstance (b := true) (T := "StopIteration") ⟨_, Heap.get?_update_self _ (Heap.get?_push_size _ rfl) rfl, rfl⟩ isSubtype_stop (wpAny_pure (k _ fun y o ne e => ?_)))
  exact (Heap.get?_update_other _ _ (Nat.ne_of_gt (Heap.lt_size (Heap.get?_push_of_some _ (other ne e))))).trans (Heap.get?_push_of_some _ (Heap.get?_push_of_some _ (other ne e)))
/-- a tuple taken apart there -/
theorem unpack_hot {t x1 : Addr} {items : Array Value} {Q : List Value → Shared → Prop} (hot : HotAt A x1 s.heap) (ht : s.heap.IsTuple t items)
    (k : ∀ h', Heap.ExtBut s.heap.objs.size s.heap h' → Q items.toList { s with heap := h' }) : wpAny (model prog w) A (unpackItems (.ref t) items.size none) Q E s := by
  rcases hot with ⟨han, oX, fX, atX, dX, noneX⟩
  have old : ∀ {y o}, s.heap.get? y = some o → y ≠ s.heap.objs.size := fun e => Nat.ne_of_lt (Heap.lt_size e)
  have nT : t ≠ s.heap.objs.size := ht.elim fun o h => old h.1
  have whole : List.take items.size (List.drop 0 items.toList) = items.toList := List.take_of_length_le (Nat.le_refl items.toList.length)
  unfold unpackItems
  apply wpAny_bind
  unfold notIterableAtAll
  apply wpAny_bind
  refine wpAny_specialOf ht.typeIs F.slot_tuple_iter.lookup (wpAny_pure ?_)
  simp only [if_false, Bool.false_eq_true]
  refine wpAny_bind (wpAny_holding (wpAny_pyIter_tuple ht (wpAny_bind (wpAny_holding (wpAny_draw_tuple nT items.size 0 _ _ ⟨_, Heap.get?_push_size _ rfl, rfl, rfl⟩ (ht.push _) (by omega) fun h2 hit2 hs2 => ?_)))))
  rw [whole, if_neg (by simp)]
  have atX2 := (hs2.2 x1 (old atX)).trans (Heap.get?_push_of_some _ atX)
  refine wpAny_bind (wpAny_holding (tuple_end_hot ⟨han, oX, fX, atX2, dX, noneX⟩ hit2 ((ht.push _).extBut hs2.extBut nT) (by simp) (old atX) fun h3 he3 => ?_))
  simp only [Bool.false_eq_true, Option.isSome_none, if_false]
  exact wpAny_pure (k h3 fun y o ne e => he3 y o ne (hs2.extBut y o ne (Heap.get?_push_of_some _ e)))
end
end HotX
namespace Cc
open PySem PySem.Spec PyProof.Rows L2
section
variable {X : Cx} {o : Expr} {f : Str} {pos : Pos} {ta : TE}
/-- o.f = .. -/
def gAtt (K : PySem.W.Frag) (ta : TE) (f : Str) : TG := fun v σ H Q => ta σ H fun x H2 => ∃ a C dx fs, x = .ref a ∧ H2 a = some (.ins C dx fs) ∧ Cls K C ∧ NoAttr K C f ∧ fs.length < 1000 ∧ Q σ (upd H2 a (.ins C dx (putF f v fs)))
theorem pg_att (ha : PE X o ta) : PG X (.Attribute o f pos) (gAtt X.K ta f) := by
  refine ⟨fun pins s σ H v u Q I r h => ?_⟩; rw [arm_assign_Attribute]
  refine wpAny_bind (wpAny_holding (thn (ha.run pins s σ H _ I h) fun ov s1 ⟨x, H1, I1, rx, a, C, dx, fs, ex, ea, c, n, l, q⟩ => ?_))
  subst ex
  obtain rfl : ov = Value.ref a := rx; refine wpAny_bind (wpAny_standAt (wpAny_bind (wpAny_holding (setattr_ok I1 ea c n l r fun s2 I2 => ?_))))
  exact wpAny_release ⟨σ, _, I2, q⟩
theorem pg_tupH {es : List Expr} {k : Nat} {t : TGs} {n : Nat} (hc : L2H.HotC X) (h : PGs X es t) (hn : (assignEach es X.env).length = n := by rfl) (hst : (assignEach es X.env).findIdx? (·.1) = none := by rfl) :
    PG X (.Tuple es k pos) (gTup X.K n t) := by
  refine ⟨fun pins s σ H v u Q I r ⟨a, xs, ev, hq, hl, hw⟩ => ?_⟩
  subst ev
  obtain rfl : u = Value.ref a := r
  obtain ⟨its, rv, ht, _⟩ := I.tuple hq
  obtain ⟨x1, hot⟩ := hc.at I
  have size : (assignEach es X.env).length = its.toArray.size := by simp [hn, ← hl, rv.length]
  rw [arm_assign_Tuple]
  apply wpAny_bind
  apply wpAny_standAt
  unfold unpack
  rw [size, hst]
  refine wpAny_bind (wpAny_holding (HotX.unpack_hot hot ht fun h' hx => h.run pins _ σ H xs _ Q (I.kept (t' := s.toks) fun b o e => hx b o (Nat.ne_of_lt (Heap.lt_size e)) e) (by simpa using rv) hw))
end
end Cc

/-! The same where the exception is known to have no context. -/
namespace Cc
open PySem PySem.Spec PyProof.Rows L2
open LamX
section
variable {M : Model} {A : Around} {E : Value → Shared → Prop} {z : Shared} {Z : Obj → Prop} {B : Heap} {env : Env} {outer : List Env} {L L' e : Addr}
/-- noted by another frame, of the same stack -/
theorem looks_heldN {Q : Unit → Shared → Prop} (hZ : PXN.Steady1 Z) (hfr : A.frames = some (env :: outer)) (hf : env.frame = some L) (ne : L' ≠ L) (hh : HandSPX.HeldZ B (env :: outer) e Z L' z.heap)
    (hQ : ∀ h', HandSPX.HeldZ B (env :: outer) e Z L h' → z.heap.UpToSlots h' → Q () { z with heap := h' }) : wpAny M A (noteFrame (.ref e) env) Q E z := by
  obtain ⟨kb, en, fl, oe, vs, T, oT, ts, he, hz, hd, h1, nT, Te, hT, dT, h3⟩ := hh
  unfold noteFrame
  simp only [hf]
  refine wpAny_bind (wpAny_field he hd h1 ?_); rw [if_pos (show (Value.ref T != Value.none) = true from by simp)]
  refine wpAny_bind (wpAny_field hT dT h3 ?_)
  rw [if_neg (show ¬ ((rawInt L' == rawInt L) = true) from fun q => ne (Int.ofNat.inj (by simpa [rawInt] using q)))]
  refine wpAny_bind (wpAny_setField hT dT (Array.getElem?_eq_some_iff.mp h3).1 ?_)
  have oth : ∀ b, b ≠ T → (z.heap.update T (Obj.mapFields (·.setIfInBounds 3 Value.none))).get? b = z.heap.get? b := fun b hb => Heap.get?_update_other _ _ (Ne.symm hb)
  have nr : ∀ b o, z.heap.get? b = some o → (∀ vs, o.data ≠ .fields vs) → b ≠ T := fun b o hb nf q => by
    rw [q, hT] at hb; injection hb with hb; subst hb; exact nf ts dT
  refine PXN.wpAny_entryZ hZ hfr (fl.of_keeps fun b o hb nf => ⟨o, (oth b (nr b o hb nf)).trans hb, rfl⟩) hf ((oth e (Ne.symm Te)).trans he)
    (fun b o hbo => (oth b fun q => by rw [q, nT] at hbo; cases hbo).trans (kb b o hbo)) en hd (Array.getElem?_eq_some_iff.mp h1).1 hz fun h' hN => ?_
  obtain ⟨x1, x2, x3, x4⟩ := hN
  exact hQ h' ⟨x1, en, x2, x3⟩ fun b o hb nf => x4 b o ((oth b (nr b o hb nf)).trans hb) nf
end
section
variable {X : Cx}
/-- an exception in a block's air is, the block left, one in the air around it -/
theorem blk_airN {z3 : Shared} {G3 : Hp} {sc : Scope} {ce : Env} {fp : List Addr} {pz : List (Addr × Obj)} {sg : L2.St} {W : WX} {Q : Value → Shared → Prop} {acc : Value}
    (hs : X.stack = X.env :: X.outer) (hf : X.env.frame = some X.env.locals) (hcf : ce.frame = X.env.frame) (tk : L2N.Takes X W) (K3 : Inv X pz sg G3 z3) (f3 : ∀ b ∈ fp, FpOk X pz G3 b) (lc : ce.locals = z3.heap.objs.size) :
    L2N.Takes ((X.blk z3 G3 sc ce fp).wish (notedBy (model X.prog X.w) X.A ce fun x s' => blkEnd (model X.prog X.w) X.A X.xe Q acc ce (.error x) s')) (fun cls d _ H => W cls d sg H) := by
  rintro u s' ⟨a, B, sI, pn, sg', H', cls, d, rfl, J', nb, up, sky, na, os, ag, w⟩
  have J : Inv (X.blk z3 G3 sc ce fp) pn sg' H' sI := J'.unwish
  have nb : ∀ b o, sI.heap.get? b = some o → b ∉ frs X.stack → B.get? b = some o := nb
  have w : W cls d sg H' := w
  show wpAny _ X.A (noteFrame (.ref a) ce) _ _ _
  rw [note_env hcf]
  have hfr : X.A.frames = some (X.env :: X.outer) := by rw [K3.ok.frames, hs]
  have sky' : Sky B (X.env :: X.outer) a (L2N.Zn cls d) ce.locals s'.heap := by rw [← hs]; exact sky
  have nC : ce.locals ≠ X.env.locals := by rw [lc]; exact Nat.ne_of_gt K3.lt
  have nfC : ce.locals ∉ frs X.stack := fun hm => by
    obtain ⟨_, o, e, _⟩ := K3.stack.mem hm
    have := Heap.lt_size e
    rw [lc] at this
    exact absurd this (Nat.lt_irrefl _)
  have fin : ∀ h1, HandSPX.HeldZ B (X.env :: X.outer) a (L2N.Zn cls d) X.env.locals h1 → s'.heap.UpToSlots h1 → blkEnd (model X.prog X.w) X.A X.xe Q acc ce (.error (.ref a)) { s' with heap := h1 } := by
    intro h1 hh up1
    have J3 : Inv (X.blk z3 G3 sc ce fp) pn sg' H' { s' with heap := h1 } := J.landed nb hh.1 (up.trans up1) os ag
    obtain ⟨m, hm, _⟩ := J3.loc
    obtain ⟨mI, hmI, _⟩ := J.loc
    have hmI : sI.heap.Ns ce.locals mI := hmI
    obtain ⟨oC, _, _, eC, _⟩ := id hmI
    have BC := nb _ _ eC nfC
    refine ⟨m, hm, fun h' sb => ?_⟩
    have sb : Heap.SameBut ce.locals h1 h' := sb
    obtain ⟨k1, k2, k3, oe, vs, T, oT, ts, he, hz, hd, e1, nT, Te, hT, dT, e3⟩ := hh
    have aC : a ≠ ce.locals := fun q => by rw [q, BC] at k2; cases k2
    have TC : T ≠ ce.locals := fun q => by rw [q, BC] at nT; cases nT
    have he' : h'.get? a = some oe := (sb.2 a aC).trans he
    have hB : ∀ b o, (PySem.W.hideAll B [ce.locals]).get? b = some o → b ≠ ce.locals := fun b o e q => by
      rw [q, PySem.W.hideAll_none _ (by simp)] at e; cases e
    have nB : ∀ b, B.get? b = none → (PySem.W.hideAll B [ce.locals]).get? b = none := fun b n => by
      cases q : (PySem.W.hideAll B [ce.locals]).get? b with
      | none => rfl
      | some o =>
        have y := PySem.W.of_hideAll _ q
        rw [n] at y; cases y
    have sky2 : HandSPX.HeldZ (PySem.W.hideAll B [ce.locals]) (X.env :: X.outer) a (L2N.Zn cls d) X.env.locals h' :=
      ⟨fun b o e => (sb.2 b (hB b o e)).trans (k1 b o (PySem.W.of_hideAll _ e)), nB _ k2,
        funFrames_at k3 (fun b hb => sb.2 b fun q => nfC (by rw [hs, ← q]; exact hb)) (fun b hb => nB _ (k3.mem hb).1),
        oe, vs, T, oT, ts, he', hz, hd, e1, nB _ nT, Te, (sb.2 T TC).trans hT, dT, e3⟩
    have K7 : Inv X pz sg H' sI := K3.call' (ch := fp) J.os J.base J.hok J.bare fun b hb => ⟨(f3 b hb).2.2.2.1, (f3 b hb).2.1, (f3 b hb).2.2.2.2.1, (f3 b hb).2.2.2.2.2⟩
    have fC : FpOk X pz H' z3.heap.objs.size := K3.fpOk (Nat.le_refl _) (lc ▸ (show H' ce.locals = none from J.free))
    rw [← lc] at fC
    obtain ⟨a0, a1, _, a3, a4, a5⟩ := fC
    have I2 : Inv X pz sg H' { sI with heap := PySem.W.hideAll sI.heap [ce.locals], toks := sI.toks } := K7.turned (fun b o hb e => PySem.W.hideAll_get _ e (by simp [hb])) a0 a1 a3 a4 a5
    have upA : (PySem.W.hideAll sI.heap [ce.locals]).UpToSlots h' := fun b o e nf => by
      have bC : b ≠ ce.locals := fun q => by
        rw [q, PySem.W.hideAll_none _ (by simp)] at e; cases e
      obtain ⟨sl, q⟩ := (up.trans up1) b o (PySem.W.of_hideAll _ e) nf
      exact ⟨sl, (sb.2 b bC).trans q⟩
    have last : wpAny (model X.prog X.w) X.A (setFlight (.ref a) ce.frame) (fun _ s4 => wpAny (model X.prog X.w) X.A (throw (.ref a) : Sem Value) (fun _ _ => False) X.xe s4) X.xe { s' with heap := h' } := by
      rw [hcf, hf]
      refine HandSPX.setFlight_onZ sky2 fun h4 hh4 up4 => wpAny_throw (tk _ _ ?_)
      exact ⟨a, PySem.W.hideAll B [ce.locals], _, pz, sg, H', cls, d, rfl, I2, fun b o e hb => PySem.W.hideAll_get _ (nb b o (PySem.W.of_hideAll _ e) hb) (by
        intro q
        have q : b = ce.locals := by simpa using q
        rw [q, PySem.W.hideAll_none _ (by simp)] at e; cases e), upA.trans up4, .inr (.inr (by rw [hs]; exact hh4)), na, os, ag, w⟩
    unfold PySem.passOn
    refine wpAny_bind (wpAny_field he' hd e1 ?_); rw [if_neg (show ¬ ((Value.ref T == Value.none) = true) from by simp)]
    first
      | exact wpAny_bind (wpAny_pure (wpAny_bind last))
      | exact wpAny_bind last
  rcases sky' with ⟨kB, hn, fl, oe, vs, he, hz, hd, e1⟩ | fl | hh
  · exact PXN.look_newZ L2N.Zn.steady hfr fl hf he kB hn hd e1 hz fin
  · exact PXN.looks_onZ L2N.Zn.steady hfr hf fl fin
  · exact looks_heldN L2N.Zn.steady hfr hf nC hh fin
end
section
variable {X : Cx}
theorem pe_lcN {el ta ia : Expr} {fs : List Expr} {sc : Scope} {own : List (Str × Nat)} {ps : Pos} {wi : TI} {g : TG} {tt : TT} {te : WX → L2.St → TE} {Wx : WX} (hc : X.calm = true) (hN : X.N.Nodup) (hst : X.stack = X.env :: X.outer) (hf : X.env.frame = some X.env.locals) (tk : L2N.Takes X Wx)
    (hi : PI X ta ia wi) (ok : BlkOk X.N X.env.scope sc own)
    (hg : ∀ (s : Shared) (H : Hp) (C : Addr) (cl : List (Str × Addr)) (fp : List Addr), PG (X.blk s H sc (compEnvC sc cl C X.env) fp) ta g)
    (ht : ∀ (s : Shared) (H : Hp) (C : Addr) (cl : List (Str × Addr)) (fp : List Addr), PTs (X.blk s H sc (compEnvC sc cl C X.env) fp) fs tt)
    (he : ∀ (pins : List (Addr × Obj)) (σ : L2.St) (s : Shared) (H : Hp) (C : Addr) (cl : List (Str × Addr)) (fp : List Addr) (xe : Value → Shared → Prop), Inv X pins σ H s → (∀ b ∈ fp, FpOk X pins H b) →
      L2N.Takes ((X.blk s H sc (compEnvC sc cl C X.env) fp).wish xe) (fun cls d _ G => Wx cls d σ G) → PE ((X.blk s H sc (compEnvC sc cl C X.env) fp).wish xe) el (te (fun cls d _ G => Wx cls d σ G) σ))
    (hs : ∀ x, foldedSetIterable ia X.env x = pure x := by intro _; rfl) :
    PE X (.ListComp el [⟨ta, ia, fs, 0⟩] sc ps) (fun σ H Q => tLc wi g tt (te (fun cls d _ G => Wx cls d σ G) σ) (own.map (·.2)) σ H Q) := by
  refine ⟨fun pz z0 sg G0 Qq K0 h => ?_⟩
  rw [eval_ListComp]
  have frees : ∀ y ∈ sc.names, y.2 = .free → ∃ c, X.env.cells.lookup y.1 = some c := fun y hy e => K0.ok.has _ (ok.free y hy e)
  refine wp_compR rfl hs (closure_ok frees) ok.kind (fun y hy e => (ok.uniq y hy).trans (congrArg some e)) (thn (hi.run pz z0 sg G0 _ K0 h) fun _ z1 h1 => thn h1 fun iv z2 h2 => ?_)
  obtain ⟨it, fp, tn, Jt, G2, rfl, K2, T, t2, f2, q⟩ := h2
  refine wpAny_newObj_type (newEnv_comp ?_) (by show 0 ≤ sizeLine; decide); obtain ⟨D, hD⟩ : ∃ D, D = z2.heap.objs.size := ⟨_, rfl⟩
  rw [← hD]
  have freeD : G2 D = none := K2.hok.fresh (Nat.le_of_eq hD.symm)
  obtain ⟨W, ⟨m0, w0⟩, turn⟩ := q D freeD
  obtain ⟨z3, hz3⟩ : ∃ z3 : Shared, z3 = { z2 with heap := z2.heap.push { cls := .type "list", data := .seq ([] : List Value).toArray } } := ⟨_, rfl⟩
  have p3 : z3.heap = z2.heap.push { cls := .type "list", data := .seq ([] : List Value).toArray } := by rw [hz3]
  have keep3 : ∀ b o, z2.heap.get? b = some o → z3.heap.get? b = some o := fun b o e => by
    rw [p3]
    exact Heap.get?_push_of_some (h := z2.heap) _ e
  have K3 : Inv X pz sg (upd G2 D (.lst [])) z3 := by
    rw [hz3]
    refine K2.laid (t' := z2.toks) (fun b o e => Heap.get?_push_of_some _ e) (Nat.le_of_eq hD.symm) ⟨Nat.zero_le _, [], 0, .nil, ?_⟩
    rw [hD]
    exact Heap.get?_push_size z2.heap rfl
  have old : ∀ b ∈ fp, b < z2.heap.objs.size := fun b hb => (T.obj _ _ t2 b hb).elim fun _ e => Heap.lt_size e.1
  have f3 : ∀ b ∈ fp, FpOk X pz (upd G2 D (.lst [])) b ∧ b < z3.heap.objs.size := fun b hb =>
    ⟨⟨by rw [upd_ne (by rw [hD]; exact Nat.ne_of_lt (old b hb))]; exact (f2 b hb).1, (f2 b hb).2⟩, by rw [p3, Heap.size_push]; exact Nat.lt_succ_of_lt (old b hb)⟩
  have K4 := block_start K3 ok hN f3
  have Bg := hg z3 (upd G2 D (.lst [])) z3.heap.objs.size (cellsFrom (z3.heap.objs.size + 1) sc.names (cloFrom X.env.cells sc.names [])) fp
  have Bt := ht z3 (upd G2 D (.lst [])) z3.heap.objs.size (cellsFrom (z3.heap.objs.size + 1) sc.names (cloFrom X.env.cells sc.names [])) fp
  have Be := fun xe => he pz sg z3 (upd G2 D (.lst [])) z3.heap.objs.size (cellsFrom (z3.heap.objs.size + 1) sc.names (cloFrom X.env.cells sc.names [])) fp xe K3 fun b hb => (f3 b hb).1
  have goal : codeAny (model X.prog X.w) X.A (.compStart (.ListComp el [⟨ta, ia, fs, 0⟩] sc ps) 0 (.ref it) (.ref D) (compEnvC sc (cellsFrom (z3.heap.objs.size + 1) sc.names (cloFrom X.env.cells sc.names [])) z3.heap.objs.size X.env))
      (blkEnd (model X.prog X.w) X.A X.xe (EP X pz sg Qq) (.ref D) (compEnvC sc (cellsFrom (z3.heap.objs.size + 1) sc.names (cloFrom X.env.cells sc.names [])) z3.heap.objs.size X.env)) { z3 with heap := pushCells (z3.heap.push { cls := .type "dict", data := .dict #[] }) sc.names } := by
    obtain ⟨ce, hce⟩ : ∃ ce, ce = compEnvC sc (cellsFrom (z3.heap.objs.size + 1) sc.names (cloFrom X.env.cells sc.names [])) z3.heap.objs.size X.env := ⟨_, rfl⟩
    rw [← hce] at K4 Bg Bt Be ⊢
    have lc : ce.locals = z3.heap.objs.size := by rw [hce]; rfl
    have hcf : ce.frame = X.env.frame := by rw [hce]; rfl
    obtain ⟨G3, hG3⟩ : ∃ G3, G3 = upd G2 D (.lst []) := ⟨_, rfl⟩
    rw [← hG3] at K3 K4 Bg Bt Be w0 f3
    have nf3 : ∀ b ∈ fp, G3 b = none := fun b hb => (f3 b hb).1.1
    have air := blk_airN (sc := sc) (Q := EP X pz sg Qq) (acc := .ref D) hst hf hcf tk K3 (fun b hb => (f3 b hb).1) lc
    have Be := Be _ air
    obtain ⟨z4, hz4⟩ : ∃ z4 : Shared, z4 = { z3 with heap := pushCells (z3.heap.push { cls := .type "dict", data := .dict #[] }) sc.names } := ⟨_, rfl⟩
    rw [← hz4] at K4 ⊢
    have t4 : tn 0 z4.heap := T.keep _ _ _ t2 fun b _ o e => by
      rw [hz4]
      exact pushCells_keeps _ _ _ _ (Heap.get?_push_of_some _ (keep3 b o e))
    have fpk : ∀ {sg' : L2.St} {G' : Hp} {z' : Shared}, Inv (X.blk z3 G3 sc ce fp) [] sg' G' z' → (∀ b ∈ fp, G' b = none) → ∀ b ∈ fp, FpOk (X.blk z3 G3 sc ce fp) [] G' b := fun Kk hn b hb =>
      ⟨hn b hb, (Kk.ok.exf b hb).1, Kk.ok.exfs b hb, .inl hb, fun x c e => (Kk.ok.exf b hb).2 x c e, fun p hp => by simp at hp⟩
    have loop : codeAny (model X.prog X.w) X.A (.compLoop (.ListComp el [⟨ta, ia, fs, 0⟩] sc ps) 0 (.ref it) (.ref D) ce) (blkEnd (model X.prog X.w) X.A X.xe (EP X pz sg Qq) (.ref D) ce) z4 := by
      refine compLoop_any (fun n z => ∃ i G, Inv (X.blk z3 G3 sc ce fp) [] (wipe sg (own.map (·.2))) G z ∧ tn i z.heap ∧ (∀ b ∈ fp, G b = none) ∧ W i n G) ?_ m0 ⟨0, G3, K4, t4, nf3, w0⟩
      rintro n z5 ⟨i, G5, K5, t5, n5, w5⟩
      rcases turn i n G5 w5 with ⟨halt, qq⟩ | ⟨go, Nx, hNx, step⟩
      · refine thnF (T.done (X.blk z3 G3 sc ce fp) rfl rfl rfl hc i [] z5 _ G5 (fun _ _ => False) K5 (fpk K5 n5) t5 halt) fun r z6 ⟨hr, K6⟩ => ?_
        subst hr
        have K7 : Inv X pz sg G5 z6 := K3.call' (ch := fp) K6.os K6.base K6.hok K6.bare fun b hb => ⟨(f3 b hb).1.2.2.2.1, (f3 b hb).1.2.1, (f3 b hb).1.2.2.2.2.1, (f3 b hb).1.2.2.2.2.2⟩
        have nC : G5 z3.heap.objs.size = none := lc ▸ (show G5 ce.locals = none from K6.free)
        obtain ⟨m, hm, _⟩ := K6.loc
        have ff := K3.fpOk (Nat.le_refl _) nC
        rw [← lc] at ff
        refine ⟨m, hm, fun h'' sb => ?_⟩
        obtain ⟨a0, a1, _, a3, a4, a5⟩ := ff
        exact ⟨.ref D, G5, K7.turned (t' := z6.toks) (fun b o hb e => (sb.2 b hb).trans e) a0 a1 a3 a4 a5, rfl, qq⟩
      · refine thnF (T.item (X.blk z3 G3 sc ce fp) rfl rfl rfl hc i [] z5 _ G5 (fun _ _ => False) K5 (fpk K5 n5) t5 go) fun r z6 ⟨u, hr, h6⟩ => ?_
        subst hr
        refine thnF h6 fun _ z7 ⟨x, G7, K7, r7, y7, t7, n7⟩ => ?_
        refine thnF (Bg.run _ z7 _ G7 x u _ (K7.pinned (fpk K7 n7) (T.obj _ _ t7)) r7 (step x G7 y7)) fun _ z8 ⟨sg8, G8, K8, w8, q8⟩ => ?_
        refine thnF (Bt.run _ z8 sg8 G8 _ K8 q8) fun b z9 ⟨G9, K9, q9⟩ => ?_
        have fin : ∀ {z' : Shared} {G' : Hp}, Inv (X.blk z3 G3 sc ce fp) ([] ++ pinsAt fp z7.heap) sg8 G' z' → Nx G' → ∃ m, m < n ∧ ∃ i G, Inv (X.blk z3 G3 sc ce fp) [] (wipe sg (own.map (·.2))) G z' ∧ tn i z'.heap ∧ (∀ b ∈ fp, G b = none) ∧ W i m G := fun {z' G'} Kk nx => by
          obtain ⟨m', lt, w'⟩ := hNx G' nx
          have pin : ∀ b ∈ fp, ∀ o, z7.heap.get? b = some o → z'.heap.get? b = some o ∧ G' b = none := fun b hb o e =>
            let y := Kk.pin (b, o) (List.mem_append_right _ (List.mem_append_right _ (mem_pinsAt hb e)))
            ⟨y.1, y.2.1⟩
          refine ⟨m', lt, i + 1, G', (Kk.unpinned (pins := [])).weak (by rw [← w8, wipe_length]) (fun j v e => by rw [← w8] at e; exact (wipe_some e).1), T.keep _ _ _ t7 fun b hb o e => (pin b hb o e).1, fun b hb => ?_, w'⟩
          obtain ⟨o, e, _⟩ := T.obj _ _ t7 b hb
          exact (pin b hb o e).2
        cases b with
        | false =>
          simp only [Bool.false_eq_true, if_false] at q9 ⊢; exact fin K9 q9
        | true =>
          simp only [if_true] at q9 ⊢
          refine thn (Be.run _ z9 sg8 G9 _ (K9.wish _) q9) fun v z10 ⟨y, G10, K10, r10, acc, eD, room, nx⟩ => ?_
          exact app_ok (X := X.blk z3 G3 sc ce fp) K10.unwish eD room r10 fun z11 K11 => fin K11 nx
    exact codeAny_compStart_list loop (T.self X.A 0 _ _ _ t4 loop)
  exact hz3 ▸ goal
end
end Cc

/-! A class over ValueError called with nothing but one keyword: BaseException.__new__ takes it and drops it, then the class's own __init__ has it. -/
namespace PySem
namespace EiX
open Builtin Builtin.ObjectAttr PySem.HandSPX
/-- the written parts of a class over ValueError -/
structure Parts where
  (nm q : Str)
  ns : Addr
  (bs bm sub : List Value)
  hd : Bool
  sn : List Str
  ab : Bool
  col : Option Bool
  dd : Option Addr
  (k0 k1 k2 k3 k5 : Option Value)
/-- at C: that class -/
abbrev Parts.at (p : Parts) (h : Heap) (C : Addr) : Prop := h.get? C = some (excClassObj p.nm p.q C p.ns p.bs p.bm p.hd p.sn p.sub p.ab p.col p.dd p.k0 p.k1 p.k2 p.k3 p.k5 "ValueError.__new__")
theorem Parts.has {p : Parts} (ve : refsVE p.bm = true) {C : Addr} {t : String} {b : Bool} (e : veTail.contains (.type t) = b) : (Value.ref C :: p.bm).contains (.type t) = b := by
  rw [List.contains_cons, refsVE_contains t p.bm ve, e]
  cases b <;> rfl
section
variable {prog : Program} {w : World} {M : Model} {A : Around} {Er : Value → Shared → Prop} {R : Result → Shared → Prop} {h : Heap} {gn : Array GenState} {dw : Drawn} {tn : Nat} {sys : OsState} {C fI : Addr} {p : Parts} {fld : Str} {v : Value}
/-- the row of __new__ lets a keyword pass -/
theorem new_lets (ve : refsVE p.bm = true) (cl : p.at h C) {Q : Unit → Shared → Prop} (q : Q () ⟨h, gn, dw, tn, sys⟩) : wpAny M A (checkBuiltinCall "ValueError.__new__" ⟨[.ref C], [(fld, v)]⟩) Q Er ⟨h, gn, dw, tn, sys⟩ := by
  have over : (Value.ref C :: p.bm).contains (.type "ValueError") = true := Parts.has ve (by decide +kernel)
  have star := F.excBase_ValueError.noStar
  simp only [checkBuiltinCall, F.excBase_ValueError.newKind, F.excBase_ValueError.newSplit, F.excBase_ValueError.newRow]
  repeat (first
    | refine wpAny_loadPart_at cl ?_
    | (refine wpAny_isSubtype_exc cl ?_; rw [over])
    | refine wpAny_staticBase_exc cl ?_
    | refine wpAny_madeBy_exc cl ?_
    | simp only [bne_self_eq_false, Bool.false_eq_true, if_false]
    | wp_step)
  exact q
/-- so does type.__call__'s -/
theorem call_lets (cl : p.at h C) {Q : Unit → Shared → Prop} (q : Q () ⟨h, gn, dw, tn, sys⟩) : wpAny M A (checkBuiltinCall "type.__call__" ⟨[.ref C], [(fld, v)]⟩) Q Er ⟨h, gn, dw, tn, sys⟩ := by
  have under := tc_sub
  have ty : (⟨h, gn, dw, tn, sys⟩ : Shared).TypeIs (.ref C) "type" := ⟨_, cl, rfl⟩
  simp only [checkBuiltinCall, tc_split, tc_kind]
  repeat (any_goals (first
    | assumption
    | with_reducible refine wpAny_loadPart_at cl ?_
    | with_reducible refine wpAny_onRaise ?_
    | with_reducible refine wpAny_map ?_
    | wp_step))
/-- the heap with the empty args and the new exception -/
abbrev fresh2 (h : Heap) (C : Addr) : Heap := (h.push (W.kdv_tup [])).push (excO C h.objs.size)
/-- ValueError.__new__(C, fld = v) -/
theorem new_run (ve : refsVE p.bm = true) (cl : p.at h C) (q : R (.ok (.ret (.ref (h.objs.size + 1)))) ⟨fresh2 h C, gn, dw, tn, sys⟩) : codeAny (model prog w) A (.builtin "ValueError.__new__" ⟨[.ref C], [(fld, v)]⟩) R ⟨h, gn, dw, tn, sys⟩ := by
  have ends := F.excBase_ValueError.ends
  have few : ([] : List Value).length ≤ sizeLine := Nat.zero_le _
  have c1 : (Value.ref C :: p.bm).contains (.type "ValueError") = true := Parts.has ve (by decide +kernel)
  have c2 : (Value.ref C :: p.bm).contains (.type "AttributeError") = false := Parts.has ve (by decide +kernel)
  have c3 : (Value.ref C :: p.bm).contains (.type "NameError") = false := Parts.has ve (by decide +kernel)
  refine codeAny_builtinAt F.excBase_ValueError.entry ?_; unfold Builtin.«BaseException.__new__»; refine wpAt_bind ?_
  show wpAt _ _ _ (stack >>= fun _ => _) _ _ _
  refine wpAt_bind (wpAt_stack fun _ below => wpAt_of_wpAny ?_); wp_walk
  refine wpAt_of_wpAny ?_; rw [F.excBase_ValueError.owner]
  repeat (first
    | with_reducible refine wpAny_madeHere_exc F.excBase_ValueError.canon cl ?_
    | with_reducible refine wpAny_loadPart_at cl ?_
    | (with_reducible refine wpAny_isSubtype_exc cl ?_; first | rw [c1] | rw [c2] | rw [c3])
    | wp_step)
  show R _ _; rw [Heap.size_push]; exact q
/-- what __init__ gave back -/
def Given (Q : Fin → Shared → Prop) (Er : Value → Shared → Prop) (x : Addr) : Result → Shared → Prop := fun r s' => match r with
  | .ok (.ret u) => u = .none ∧ Q (.done (.ret (.ref x))) s'
  | .ok _ => False
  | .error e => Er e s'
theorem type_run (ve : refsVE p.bm = true) (cl : p.at h C) (li : W.Looks (model prog w) h (typeLookup (.ref C) "__init__") (some (.ref fI))) (lb : ∀ x, W.Looks (model prog w) h (bindSpecial (.ref fI) x) (.ref fI, [x])) {Q : Fin → Shared → Prop}
    (q : codeAny (model prog w) A (.call (.ref fI) ⟨[.ref (h.objs.size + 1)], [(fld, v)]⟩) (Given Q Er (h.objs.size + 1)) ⟨fresh2 h C, gn, dw, tn, sys⟩) :
    wpAny (model prog w) A (Builtin.«type.__call__» ⟨[.ref C], [(fld, v)]⟩) Q Er ⟨h, gn, dw, tn, sys⟩ := by
  repeat (first | with_reducible refine wpAny_loadPart_at cl ?_ | with_reducible refine wpAny_madeBy_exc cl ?_ | wp_step)
  refine codeAny_call_builtin_code (Code.quiet_builtin _ F.excBase_ValueError.quiet) (new_lets ve cl (new_run ve cl ?_))
  show wpAny _ _ _ _ _ _
  have up : ∀ b o, h.get? b = some o → (fresh2 h C).get? b = some o := fun b o e => Heap.get?_push_of_some _ (Heap.get?_push_of_some _ e)
  have cl2 : p.at (fresh2 h C) C := up _ _ cl
  have new2 : (fresh2 h C).get? (h.objs.size + 1) = some (excO C h.objs.size) := by heap_get
  have own : (Value.ref C :: p.bm).contains (.ref C) = true := by simp
  have li2 := li.keeps up; have lb2 := (lb (.ref (h.objs.size + 1))).keeps up
  unfold isInstance
  repeat (first | with_reducible refine wpAny_loadPart_at new2 ?_ | (with_reducible refine wpAny_isSubtype_exc cl2 ?_; rw [own]) | wp_step)
  show wpAny _ _ (typeLookup (.ref C) _) _ _ _; refine li2.at (wpAny_holding (wpAny_bind (lb2.at (wpAny_bind (wpAny_call (codeAny_mono q fun r s' z => ?_))))))
  match r, z with
  | .error _, z => exact z
  | .ok (.ret _), ⟨e, z⟩ =>
    subst e
    first | exact wpAny_pure (wpAny_pure z) | (wp_walk; exact z)
/-- C(fld = v) -/
theorem made_run (ve : refsVE p.bm = true) (cl : p.at h C) (li : W.Looks (model prog w) h (typeLookup (.ref C) "__init__") (some (.ref fI))) (lb : ∀ x, W.Looks (model prog w) h (bindSpecial (.ref fI) x) (.ref fI, [x]))
    (q : codeAny (model prog w) (A.under (.builtin "type.__call__" ⟨[.ref C], [(fld, v)]⟩)) (.call (.ref fI) ⟨[.ref (h.objs.size + 1)], [(fld, v)]⟩) (W.InitBack (h.objs.size + 1) R) ⟨fresh2 h C, gn, dw, tn, sys⟩) :
    codeAny (model prog w) A (.call (.ref C) ⟨[], [(fld, v)]⟩) R ⟨h, gn, dw, tn, sys⟩ := by
  have l1 := tc_lookup; have l2 := tc_bind (.ref C)
  have ty : (⟨h, gn, dw, tn, sys⟩ : Shared).TypeIs (.ref C) "type" := ⟨_, cl, rfl⟩
  refine codeAny_of_tree (show wpAny _ _ (callAny (.ref C) _) _ _ _ from ?_)
  repeat (any_goals (first | assumption | with_reducible refine wpAny_loadPart_at cl ?_ | wp_step))
  refine ⟨rfl, codeAny_call_builtin_at (Code.quiet_builtin _ (by decide +kernel)) entry_typeCall (call_lets cl (type_run ve cl li lb (codeAny_mono q fun r s' z => ?_)))⟩
  match r, z with
  | .error _, z => exact z
  | .ok (.ret _), z => exact z
end
end EiX
end PySem

/-! The __init__ of an own error: super().__init__(f'.. {index} ..'); self.index = index. -/
namespace PySem
namespace EiX
open PySem.W PySem.Calls PyProof.Rows PySem.HandSPX
def iA (p1 p2 : Pos) : Arguments := { posonlyargs := [], args := [{ arg := "self", annotation := none, pos := p1 }], vararg := none, kwonlyargs := [{ arg := "index", annotation := none, pos := p2 }], kw_defaults := [none], kwarg := none, defaults := [] }
def iB (t1 t2 : Str) (a1 a2 a3 a4 a5 a6 a7 a8 a9 a10 b1 b2 b3 b4 : Pos) : List Stmt := [
  .Expr (.Call (.Attribute (.Call (.Name "super" a1) [] [] a2) "__init__" a3) [.JoinedStr [.Constant (.str t1) 0 a4, .FormattedValue (.Name "index" a5) (-1) none a6, .Constant (.str t2) 0 a7] a8] [] a9) a10,
  .Assign [.Attribute (.Name "self" b1) "index" b2] (.Name "index" b3) b4]
def iS : Scope := { kind := .function, names := [(PySem.Str.ofString "self", .local), (PySem.Str.ofString "index", .local), (PySem.Str.ofString "__class__", .free), (PySem.Str.ofString "super", .globalImplicit)], isGenerator := false, isCoroutine := false, more := [] }
/-- what is asked of such a class, at C, and of its __init__, at fI -/
structure EiTxt (P : Program) (K : Frag) (mg : Str → Option Value) (x : Str) (C fI : Addr) : Prop where
  at_ : mg x = some (.ref C)
  (kp : keepIn K (.ref C) = true)
  cls : ∃ nm q N bs bm sn sub ab col dd k0 k1 k2 k3 k5, K.lookup C = some (excClassObj nm q C N bs bm true sn sub ab col dd k0 k1 k2 k3 k5 "ValueError.__new__") ∧ refsVE bm = true
  sa : findIn K (.ref C) "__setattr__" = some (some (.builtin "object.__setattr__"))
  noN : findIn K (.ref C) "index" = some none
  iC : findIn K (.ref C) "__init__" = some (some (.ref fI))
  tC : typeIn K (.ref fI) = some (.type "function")
  sub : subIn K (.ref C) (.type "BaseException") = some true
  ty : typeIn K (.ref C) = some (.type "type")
  sve : subIn K (.ref C) (.type "ValueError") = some true
  sup : ks_superIn K C C "__init__" = some (some (.builtin "ValueError.__init__"))
  opq : nsIn K cStatics "thirdparty.any" = some none
  nsu : mg "super" = none
  htop : (P.main.scope.names.lookup ("super" : Str)).isSome = false
  fn : ∃ (cc cda : Addr) (oc : Value) (od : Option Addr) (kV doc pm : Value) (an : Option Addr) (ct : Value) (osl : Array (Option Value)) (qual t1 t2 : Str) (p1 p2 a1 a2 a3 a4 a5 a6 a7 a8 a9 a10 b1 b2 b3 b4 : Pos) (cl ccl : Value) (cld cdd : Option Addr) (csl ccs : Array (Option Value)) (vs : Array Value) (file : Str) (tf : Tok),
    K.lookup fI = some ⟨oc, od, .func (ksFn "__init__" qual (iA p1 p2) (iB t1 t2 a1 a2 a3 a4 a5 a6 a7 a8 a9 a10 b1 b2 b3 b4) iS .none kV doc pm an (.ref cda) ct cc), osl⟩ ∧ codeIn K (.ref cda) qual = true ∧
    K.lookup cc = some ⟨cl, cld, .cell (some (.ref C)), csl⟩ ∧ K.lookup cda = some ⟨ccl, cdd, .fields vs, ccs⟩ ∧ vs[2]? = some (.str file tf) ∧ ((P.main.file : Str) == file) = true ∧ t1.length ≤ 1000 ∧ t2.length ≤ 1000 ∧ (a3.endLine == a9.line) = true
/-- what __init__ leaves of a fresh exception at x -/
structure InitEnd (h h' : Heap) (x C dx : Addr) (v : Value) : Prop where
  keep : ∀ b o, b ≠ x → h.get? b = some o → h'.get? b = some o
  obj : ∃ t1 : Addr, h'.get? x = some { cls := .ref C, dict := some dx, data := .fields #[.ref t1, .none, .none, .none, .bool false, .none] }
  dbig : h.objs.size ≤ dx
  dne : dx ≠ x
  ns : h'.Ns1 dx (fun y => if y = "index" then some v else none)
theorem ldC {M : Model} {s : Shared} {env : Env} {m : Str → Option Value} {x : Str} {pos : Pos} {v : Value} {Q : Value → Shared → Prop} {A : Around} {E : Value → Shared → Prop} (hn : s.heap.Ns env.locals m) (hv : m x = some v) (h : Q v s)
    (hk : env.scope.kind = .function := by rfl) (hl : env.kindOf x = some .local := by rfl) (hd : (x == ("__debug__" : Str)) = false := by decide) :
    wpAny M A (eval (.Name x pos) env) Q E s := wpAny_Name (wpAny_loadName_local hk hl hn hv h) hd
/-- super().__init__ bound to the new exception, called -/
theorem call_mw {prog : Program} {w : World} {A : Around} {Er : Value → Shared → Prop} {h : Heap} {gn : Array GenState} {dw : Drawn} {tn : Nat} {sys : OsState} {C u e t0 : Addr} {p : Parts} {rest : List Value} {Q : Value → Shared → Prop}
    (cl : p.at h C) (he : h.get? e = some (excO C t0)) (hu : h.get? u = some (kxs_mw "ValueError.__init__" e)) (hrest : rest.length ≤ sizeLine)
    (hq : ∀ h' t1, (∀ b o, b ≠ e → h.get? b = some o → h'.get? b = some o) → h'.get? e = some (excO C t1) → Q .none ⟨h', gn, dw, tn, sys⟩) :
    wpAny (model prog w) A (call (.ref u) rest) Q Er ⟨h, gn, dw, tn, sys⟩ := by
  have isW : (Value.type "method-wrapper" == Value.type "method" || Value.type "method-wrapper" == Value.type "builtin_function_or_method" || Value.type "method-wrapper" == Value.type "method-wrapper") = true := by decide
  refine wpAny_call (codeAny_of_tree (show wpAny _ A.in1 (callAny (.ref u) ⟨rest, []⟩) _ _ _ from ?_))
  simp only [callAny]; refine wpAny_bind (wpAny_load hu ?_); simp only [kxs_mw, isW, if_true]
  refine KFB.if_so (by decide) (wpAny_bind (check_bound_init F.excBase_ValueError.toExcCallFacts cl he rfl (wpAny_bind (wpAny_pure (wpAny_pure ⟨plainId_quiet F.excBase_ValueError.init.plain _, codeAny_builtin F.excBase_ValueError.initEntry ?_⟩)))))
  exact exc_init_tree (cls := .ref C) (t0 := t0) (dv := none) (c2 := .none) (c3 := .none) (b4 := .bool false) he hrest fun h' k e' t' => hq h' _ k e'
theorem mc_eq {ob : Expr} {nme : Str} {vs : List Expr} {a3 a8 a9 : Pos} {env : Env} (hl : (a3.endLine == a9.line) = true) : eval (.Call (.Attribute ob nme a3) [.JoinedStr vs a8] [] a9) env = (do
    let ov ← attributeBase ob nme env (eval ob env)
    standAt a3.atName
    let (f, first) ← holding [ov] (getMethod ov nme (do return (← importBound ob env).getD true))
    callWith a9 f first (backTo a9 (starEach [.JoinedStr vs a8] env)) []) := by
  rw [arm_eval_Call]
  have e : methodCallForm (([Expr.JoinedStr vs a8] : List Expr).length + ([] : List Keyword).length) (backTo a9 (starEach [.JoinedStr vs a8] env)) (backToKw a9 (keywordEach [] env)) = true := by rfl
  unfold methodCall
  rw [e]
  unfold calleeOf methodCallPos
  rw [hl]
  rfl
theorem log_small {i : Int} (h0 : -(2 ^ 64) < i) (h1 : i < 2 ^ 64) : i.natAbs.log2 < 1920 := Cc.log_small h0 h1
theorem text_bound {i : Int} (h0 : -(2 ^ 64) < i) (h1 : i < 2 ^ 64) : (Str.ofString (toString i)).length ≤ 2000 := by
  have e := int_text_length_le (k := 1920) (by decide) (log_small h0 h1)
  rw [PySem.ofString_length]
  omega
theorem empty_len : Str.empty.length = 0 := by decide +kernel
section
variable {prog : Program} {w : World} {A : Around} {R : Result → Shared → Prop} {s : Shared} {K : Frag} {mg mb : Str → Option Value} {X : Str} {C fI : Addr}
theorem idx_init (T : EiTxt prog K mg X C fI) {x t0 : Addr} {i : Int} {tk0 : Tok} (KX : K.In s.heap) (hlim : s.heap.NoLimit) (hg : s.heap.Ns mainGlobals mg) (hb : s.heap.Ns builtinsNs mb) (hsu : mb "super" = some (.type "super"))
    (hx : s.heap.get? x = some (excO C t0)) (hnx : K.lookup x = none) (hroom : A.depth < recursionLimit) (hi : -(2 ^ 64) < i ∧ i < 2 ^ 64)
    (hq : ∀ h' tk dx, InitEnd s.heap h' x C dx (.int i tk0) → R (.ok (.ret .none)) { s with heap := h', toks := tk }) :
    codeAny (model prog w) A (.call (.ref fI) ⟨[.ref x], [("index", .int i tk0)]⟩) R s := by
  obtain ⟨cc, cda, oc, od, kV, doc, pm, an, ct, osl, qual, t1, t2, p1, p2, a1, a2, a3, a4, a5, a6, a7, a8, a9, a10, b1, b2, b3, b4, cl, ccl, cld, cdd, csl, ccs, vs, file, tf, ho, hcd, hcc, hcda, hvs, hfile, l1, l2, hln⟩ := T.fn
  obtain ⟨nm, q, N, bs, bm, sn, sub, ab, col, dd, k0, k1, k2, k3, k5, hC, hbm⟩ := T.cls
  have hcl : clsIn K C = some { name := nm, bases := bs, mro := .ref C :: bm, ns := N, qualname := q, hasDict := true, slotNames := sn, subclasses := sub, abstract := ab, collection := col, hasDel := false } := by unfold clsIn; rw [hC] <;> rfl
  have hmro : mroIn K C (.ref C) = some true := by
    unfold mroIn
    rw [hcl, Option.bind_some, if_neg (show ¬ (List.isEmpty (Value.ref C :: bm) = true) from Bool.false_ne_true)]
    simp
  have hxC : x ≠ C := fun z => by rw [z, hC] at hnx; cases hnx
  refine ks_codeAny_call_defAt (fd := ksFn "__init__" qual (iA p1 p2) (iB t1 t2 a1 a2 a3 a4 a5 a6 a7 a8 a9 a10 b1 b2 b3 b4) iS .none kV doc pm an (.ref cda) ct cc) (body := iB t1 t2 a1 a2 a3 a4 a5 a6 a7 a8 a9 a10 b1 b2 b3 b4) (binds := [("self", .ref x), ("index", .int i tk0)])
    hroom (KX _ _ ho) rfl hlim (codeRec_of KX hcd) rfl (BindsTo.of_eq (by first | rfl | with_unfolding_all rfl)) (show ∀ y ∈ iS.names, y.2 ≠ .cell by decide) (fun y hy => ?_) (fun h₀ hns hk => ?_)
  · rcases (List.mem_cons.mp hy) with rfl | hy
    · rfl
    · rw [List.mem_singleton.mp hy]
      rfl
  · have KX₀ : K.In h₀ := KX.keeps hk
    have hns' := hns
    have hself : ([("self", .ref x), ("index", .int i tk0)] : List (Str × Value)).reverse.lookup ("self" : Str) = some (Value.ref x) := by first | rfl | with_unfolding_all rfl | kernel_rfl
    have hidx : ([("self", .ref x), ("index", .int i tk0)] : List (Str × Value)).reverse.lookup ("index" : Str) = some (Value.int i tk0) := by first | rfl | with_unfolding_all rfl | kernel_rfl
    refine ks_wpAt_execs_cons (ks_wpAt_Expr_any (ks_wpAt_MethodCall ?_ (mc_eq hln)))
    refine ks_wpAt_super_base (f := fI) (cc := cda) (of := _) (oc := _) (vs := vs) (file := file) (tf := tf) rfl rfl (by decide) rfl (KX₀ _ _ ho) rfl rfl rfl (KX₀ _ _ hcda) rfl hvs hfile T.htop ?_
    refine ks_loadName_global rfl rfl (loadGlobal_builtin (hg.keeps hk) T.nsu (hb.keeps hk) hsu ⟨rfl, ?_⟩)
    refine wpAny_loadName_free rfl rfl rfl ⟨_, KX₀ _ _ hcc, rfl⟩ ?_
    refine wpAny_loadName_local rfl rfl hns hself ?_
    refine ks_wpAny_isType_cls (KX₀ _ _ hC) rfl ⟨rfl, ?_⟩
    refine ks_wpAny_call_super (KX₀ _ _ hC) rfl (hk _ _ hx) rfl (fun c z => nomatch z) (looks_mroIn KX₀ hmro) (fun h₁ e₁ kk₁ => ?_)
    have KX₁ : K.In h₁ := KX₀.keeps kk₁
    have hx₁ : h₁.get? x = some (excO C t0) := kk₁ _ _ (hk _ _ hx)
    have I₁ : InstAt h₁ x (excO C t0) C none := ⟨hx₁, rfl, rfl, trivial⟩
    have hso := e₁
    have hIV : Looks (model prog w) h₁ (isInstance (.ref x) (.type "ValueError")) true := I₁.type.andThen (looks_subIn KX₁ T.sve)
    have hsup : alongIn K "__init__" (((Value.ref C :: bm).dropWhile (· != .ref C)).drop 1) = some (some (.builtin "ValueError.__init__")) := by
      have z := T.sup
      unfold ks_superIn at z
      rw [hcl] at z
      exact z
    refine kxs_getMethod kxs_ValueError hso (looks_opaque KX₁ T.opq) (l₀ := .ref C :: bm) (fun A Q E s k q => wpAny_bind ((looks_clsIn KX₁ hcl) A _ E s k (wpAny_pure q))) rfl KX₁ hsup hIV hxC (by decide) ?_
    have k₂ : ∀ b o, h₁.get? b = some o → (h₁.push (kxs_mw "ValueError.__init__" x)).get? b = some o := fun b o e => Heap.get?_push_of_some _ e
    refine kxs_callWith (i := "ValueError.__init__") (x := x) rfl (evalArgs_plain (spliced_cons ?_))
    have li := text_bound hi.1 hi.2
    refine JoinedStr_many (pos := a8) (joinParts_cons ?_)
    refine wpAny_Constant_str (k := 0) (pos := a4) ⟨?_, joinParts_cons ?_⟩
    · simp only [Str.length_append, sizeLine_eq, empty_len]
      omega
    refine FormattedValue_plain (pos := a6) (ldC (pos := a5) (hns.keeps fun b o e => k₂ b o (kk₁ b o e)) hidx (formatField_int_small (log_small hi.1 hi.2) ⟨?_, joinParts_cons ?_⟩))
    · simp only [Str.length_append, sizeLine_eq, empty_len]
      omega
    refine wpAny_Constant_str (k := 0) (pos := a7) ⟨?_, joinParts_nil ?_ ?_⟩
    · simp only [Str.length_append, sizeLine_eq, empty_len]
      omega
    · refine spliced_nil ⟨Heap.get?_push_at rfl rfl, ?_⟩
      refine call_mw (p := ⟨nm, q, N, bs, bm, sub, true, sn, ab, col, dd, k0, k1, k2, k3, k5⟩) (k₂ _ _ (KX₁ _ _ hC)) (k₂ _ _ hx₁) (Heap.get?_push_at rfl rfl) (by show 1 ≤ sizeLine; rw [sizeLine_eq]; decide) (fun h₃ t3 k₃ hx₃ => ?_)
      have kk : ∀ b o, b ≠ x → s.heap.get? b = some o → h₃.get? b = some o := fun b o hb e => k₃ b o hb (k₂ b o (kk₁ b o (hk b o e)))
      have KX₃ : K.In h₃ := fun b o e => kk b o (fun z => by rw [z] at e; rw [e] at hnx; cases hnx) (KX b o e)
      have hLx : s.heap.objs.size ≠ x := Nat.ne_of_gt (Heap.lt_size hx)
      obtain ⟨oL, esL, epL, hoL, rL⟩ := hns
      have hns₃ : h₃.Ns s.heap.objs.size (fun y => ([("self", .ref x), ("index", .int i tk0)] : List (Str × Value)).reverse.lookup y) := ⟨oL, esL, epL, k₃ _ _ hLx (k₂ _ _ (kk₁ _ _ hoL)), rL⟩
      refine ks_wpAt_execs_cons (wpAt_of_wpAny (plainObj_wpAny_Assign_Attribute ?_))
      refine ldC hns₃ hidx (ldC hns₃ hself ?_)
      refine set_plain KX₃ (ox := excO C t3) (od := none) ⟨hx₃, rfl, rfl, trivial⟩ T.sa ?_
      refine exc_osa KX₃ hx₃ hcl (show refsVE (.ref C :: bm) = true from hbm) rfl T.noN (fun h₄ tk₄ dx k₄ dn dne hx₄ hn₄ => ?_)
      refine wpAt_of_wpAny (wpAny_execs_nil (hq h₄ tk₄ dx ⟨fun b o hb e => k₄ b o hb (kk b o hb e), ⟨_, hx₄⟩, ?_, dne, hn₄⟩))
      have z : s.heap.objs.size < h₃.objs.size := Heap.lt_size (k₃ _ _ hLx (k₂ _ _ (kk₁ _ _ hoL)))
      exact Nat.le_of_lt (Nat.lt_of_lt_of_le z dn)
    · simp only [Str.length_append, sizeLine_eq, empty_len]
      omega
end
end EiX
end PySem

/-! X(index = e), an own error made. -/
namespace PySem
namespace EiX
open PySem.W PySem.Calls PyProof.Rows PySem.HandSPX
/-- a made error -/
structure OwnMade (h h' : Heap) (e C d : Addr) (v : Value) : Prop where
  keep : ∀ b o, h.get? b = some o → h'.get? b = some o
  new : h.objs.size ≤ e
  obj : ∃ oe vs, h'.get? e = some oe ∧ oe.cls = .ref C ∧ oe.dict = some d ∧ oe.data = .fields vs ∧ vs[1]? = some .none
  dbig : h.objs.size ≤ d
  dne : d ≠ e
  ns : h'.Ns1 d (fun y => if y = "index" then some v else none)
  ctx : ∀ oe vs, h'.get? e = some oe → oe.data = .fields vs → vs[2]? = some .none
section
variable {prog : Program} {w : World} {A : Around} {R : Result → Shared → Prop} {s : Shared} {K : Frag} {mg mb : Str → Option Value} {X : Str} {C fI : Addr}
theorem idx_made (T : EiTxt prog K mg X C fI) {i : Int} {tk0 : Tok} (KX : K.In s.heap) (hlim : s.heap.NoLimit) (hg : s.heap.Ns mainGlobals mg) (hb : s.heap.Ns builtinsNs mb) (hsu : mb "super" = some (.type "super")) (hroom : A.depth + 1 < recursionLimit) (hi : -(2 ^ 64) < i ∧ i < 2 ^ 64)
    (hq : ∀ h' tk e d, OwnMade s.heap h' e C d (.int i tk0) → R (.ok (.ret (.ref e))) { s with heap := h', toks := tk }) :
    codeAny (model prog w) A (.call (.ref C) ⟨[], [("index", .int i tk0)]⟩) R s := by
  obtain ⟨nm, q, N, bs, bm, sn, sub, ab, col, dd, k0, k1, k2, k3, k5, hC, hbm⟩ := T.cls
  obtain ⟨hp, g, dr, tk, os⟩ := s
  have k : ∀ b o, hp.get? b = some o → ((hp.push (kdv_tup [])).push (excO C hp.objs.size)).get? b = some o := fun b o e => Heap.get?_push_of_some _ (Heap.get?_push_of_some _ e)
  have hget : ((hp.push (kdv_tup [])).push (excO C hp.objs.size)).get? (hp.objs.size + 1) = some (excO C hp.objs.size) := by heap_get
  have hnx : K.lookup (hp.objs.size + 1) = none := by
    cases e : K.lookup (hp.objs.size + 1) with
    | none => rfl
    | some o =>
      have z : hp.get? (hp.objs.size + 1) = some o := KX _ _ e
      exact absurd (Nat.lt_of_succ_lt (Heap.lt_size z)) (Nat.lt_irrefl _)
  refine made_run (p := ⟨nm, q, N, bs, bm, sub, true, sn, ab, col, dd, k0, k1, k2, k3, k5⟩) hbm (KX _ _ hC) (looks_findIn KX T.iC) (fun self => bind_fn KX self T.tC) ?_
  refine idx_init (s := ⟨(hp.push (kdv_tup [])).push (excO C hp.objs.size), g, dr, tk, os⟩) T (KX.keeps k) (hlim.keeps k) (hg.keeps k) (hb.keeps k) hsu hget hnx ?_ hi fun h' tk' dx ⟨k', ⟨t1, hx⟩, dn, dne, hns⟩ => ?_
  · show A.depth + 1 < recursionLimit
    exact hroom
  · have old : ∀ b o, hp.get? b = some o → h'.get? b = some o := fun b o e => k' b o (Nat.ne_of_lt (Nat.lt_succ_of_lt (Heap.lt_size e))) (k b o e)
    have z : hp.objs.size + 1 + 1 ≤ dx := by
      first
        | (simpa only [Heap.size_push] using dn)
        | exact dn
        | (have q := dn; rw [Heap.size_push, Heap.size_push] at q; exact q)
    exact ⟨rfl, hq h' tk' (hp.objs.size + 1) dx ⟨old, Nat.le_succ _, ⟨_, _, hx, rfl, rfl, rfl, rfl⟩, Nat.le_trans (Nat.le_trans (Nat.le_succ _) (Nat.le_succ _)) z, dne, hns, fun oe vs q qd => by
      rw [hx] at q; cases q; cases qd; rfl⟩⟩
end
end EiX
end PySem
namespace Cc
open PySem PySem.Spec PyProof.Rows L2
theorem relO_idx {v : V} {v' : Value} (r : RelV v v') (f : Str) : RelO (List.lookup f [(("index" : Str), v)]) (if f = "index" then some v' else none) := by
  by_cases hw : f = "index"
  · subst hw
    rw [if_pos rfl]
    have q : List.lookup ("index" : Str) [(("index" : Str), v)] = some v := by simp [List.lookup]
    rw [q]
    exact r
  · rw [if_neg hw]
    have qw : (f == ("index" : Str)) = false := by simpa using hw
    have q2 : List.lookup f [(("index" : Str), v)] = none := by simp [List.lookup, qw]
    rw [q2]
    trivial
/-- X(index = e) -/
def tMkIdx (C : Addr) (ta : TA) : L2.St → Hp → XK → Prop := fun σ H Q => ta σ H fun vs H1 => ∃ i : Int, vs = [.int i] ∧ (-(2 ^ 64) < i ∧ i < 2 ^ 64) ∧ ∀ d, H1 d = none → Q (.ref C) (some d) (upd H1 d (.xd [(("index" : Str), .int i)]))
section
variable {X : Cx}
theorem pmk_idx {x : Str} {C fI : Addr} {e : Expr} {te : TE} {p kpos pos : Pos} {k : Nat} (T : PySem.EiX.EiTxt X.prog X.K X.mg x C fI) (hr : Room k X.A) (he : PE X e te) (hg : Gl X x) (hdb : (x == ("__debug__" : Str)) = false := by decide)
    (hall : (backToKw pos (keywordEach [⟨some "index", e, kpos⟩] X.env)).all (·.1.isSome) = true := by rfl) (hks : (backToKw pos (keywordEach [⟨some "index", e, kpos⟩] X.env)).filterMap (·.1) = [("index" : Str)] := by rfl)
    (hpl : ((backTo pos (starEach [] X.env)).any (·.1) || (backToKw pos (keywordEach [⟨some "index", e, kpos⟩] X.env)).any (·.1.isNone)) = false := by rfl) :
    PMk X (.Call (.Name x p) [] [⟨some "index", e, kpos⟩] pos) (tMkIdx C (tCons te tNil)) := by
  intro pins s σ H Q I h
  refine wpAny_Call_Name_kw (ld_glob I hg T.at_ ?_ hdb)
  refine PySem.W.callWith_KW0 (h₀ := X.base) I.ok.mod.kin T.kp hall ?_ hpl
  refine thn ((pk_cons he pk_nil).run pos pins s σ H _ I h) fun ws s1 ⟨vs, H1, I1, r1, i, ev, hi, q1⟩ => ⟨I1.kIn, ?_⟩
  subst ev
  rw [hks]
  cases r1 with
  | cons rv rn =>
    rename_i v' us'
    cases rn
    obtain ⟨tk0, rfl⟩ := rv
    show wpAny _ _ (call (.ref C) [] [("index", .int i tk0)]) _ _ _
    have hlim := I1.nolimit
    obtain ⟨mb, hb1, hb2⟩ := I1.mod.blt
    have G := I1.mod.glob.keeps I1.bk
    have B := hb1.keeps I1.bk
    obtain ⟨hp, g, dr, tk, os⟩ := s1
    refine wpAny_call (PySem.EiX.idx_made T I1.kIn hlim G B ((hb2 _ (by decide)).trans (by first | rfl | decide +kernel)) (by have := hr.dp; omega) hi fun h' tk' e d M => ?_)
    show MkP X pins σ Q (.ref e) ⟨h', g, dr, tk', os⟩
    obtain ⟨oe, fv, hoe, hc, hd, hdat, h1⟩ := M.obj
    have hns := M.ns
    obtain ⟨G', g1, g2⟩ := restrict h' fun b => decide (b ≠ e)
    have gk : ∀ b, b ≠ e → G'.get? b = h'.get? b := fun b hb => g1 b (decide_eq_true hb)
    have ge : G'.get? e = none := g2 e (by simp)
    have old : ∀ b o, hp.get? b = some o → G'.get? b = some o := fun b o q => (gk b (Nat.ne_of_lt (Nat.lt_of_lt_of_le (Heap.lt_size q) M.new))).trans (M.keep b o q)
    have ob : ObjOk X.prog X.w (upd H1 d (.xd [(("index" : Str), .int i)])) G' d (.xd [(("index" : Str), .int i)]) :=
      ⟨_, hns.at (fun o q => (gk d M.dne).trans q), fun f => relO_idx (v := .int i) (v' := .int i tk0) ⟨tk0, rfl⟩ f⟩
    have J : Inv X pins σ (upd H1 d (.xd [(("index" : Str), .int i)])) ⟨G', g, dr, tk', os⟩ := I1.laid (t' := tk') old M.dbig ob
    refine ⟨e, oe, fv, ⟨G', g, dr, tk', os⟩, _, .ref C, some d, rfl, J, fun b o q => ?_, ge, hoe, ⟨hc, hd⟩, hdat, h1, ?_, rfl, I1.bare, raises_own T.sub T.ty, q1 d (I1.hok.fresh M.dbig)⟩
    · by_cases hb : b = e
      · have q' : G'.get? b = some o := q
        rw [hb, ge] at q'; cases q'
      · exact (gk b hb).symm.trans q
    · rw [upd_ne (Ne.symm M.dne)]
      exact I1.hok.fresh M.new
end
end Cc

/-! Exceptions without context, made, raised and let out. -/
namespace Cc
open PySem PySem.Spec PyProof.Rows L2
section
variable {X : Cx} {C : Addr} {bmB : List Value} {B newId initId : String} {x : Str} {e : Expr} {ta : TA} {p pos : Pos}
theorem pmk_anyN (F : ExcBaseFacts B newId initId bmB) (q : PySem.W.excIn X.K C bmB newId = true) (gC : X.mg x = some (.ref C)) (kC : PySem.W.keepIn X.K (.ref C) = true) (r : Raises X (.ref C)) (hg : Gl X x) (ha : PA X [e] ta)
    (hs : starEach [e] X.env = (false, eval e X.env) :: starEach [] X.env := by rfl) (hp : (backTo pos (starEach [] X.env)).any (·.1) = false := by rfl) (hdb : (x == ("__debug__" : Str)) = false := by decide) :
    L2N.PMk X (.Call (.Name x p) [e] [] pos) (fun σ H Q => ta σ H fun vs H1 => (∃ v, vs = [v]) ∧ Q (.ref C) none H1) := by
  intro pins s σ H Q I h
  refine wpAny_Call_Name_kw (ld_glob I hg gC ?_ hdb); refine PySem.W.callWith_K (h₀ := X.base) I.ok.mod.kin kC (thn (ha.run pos pins s σ H _ I h) fun us z1 ⟨vs, H1, I1, r1, ⟨v, ev⟩, q1⟩ => ⟨I1.kIn, ?_⟩) hs hp
  subst ev
  obtain ⟨u, rfl, ru⟩ := r1.one
  show wpAny _ _ (call (.ref C) [u]) _ _ _; obtain ⟨bm, N, nm, qn, bs, hd, sn, sub, ab, col, dd, k0, k1, k2, k3, k5, mN, hC, hN, hni, T⟩ := exc_obj I1.kIn q
  exact wpAny_call_exc_subT F T hC hN hni (fun h' a hm => L2N.mk_of I1 hm r q1 (I1.hok.gone hm.new)) (by show 1 ≤ sizeLine; decide)
end
section
variable {X : Cx}
theorem pmk_idxN {x : Str} {C fI : Addr} {e : Expr} {te : TE} {p kpos pos : Pos} {k : Nat} (T : PySem.EiX.EiTxt X.prog X.K X.mg x C fI) (hr : Room k X.A) (he : PE X e te) (hg : Gl X x) (hdb : (x == ("__debug__" : Str)) = false := by decide)
    (hall : (backToKw pos (keywordEach [⟨some "index", e, kpos⟩] X.env)).all (·.1.isSome) = true := by rfl) (hks : (backToKw pos (keywordEach [⟨some "index", e, kpos⟩] X.env)).filterMap (·.1) = [("index" : Str)] := by rfl)
    (hpl : ((backTo pos (starEach [] X.env)).any (·.1) || (backToKw pos (keywordEach [⟨some "index", e, kpos⟩] X.env)).any (·.1.isNone)) = false := by rfl) :
    L2N.PMk X (.Call (.Name x p) [] [⟨some "index", e, kpos⟩] pos) (tMkIdx C (tCons te tNil)) := by
  intro pins s σ H Q I h
  refine wpAny_Call_Name_kw (ld_glob I hg T.at_ ?_ hdb)
  refine PySem.W.callWith_KW0 (h₀ := X.base) I.ok.mod.kin T.kp hall ?_ hpl
  refine thn ((pk_cons he pk_nil).run pos pins s σ H _ I h) fun ws s1 ⟨vs, H1, I1, r1, i, ev, hi, q1⟩ => ⟨I1.kIn, ?_⟩
  subst ev
  rw [hks]
  cases r1 with
  | cons rv rn =>
    rename_i v' us'
    cases rn
    obtain ⟨tk0, rfl⟩ := rv
    show wpAny _ _ (call (.ref C) [] [("index", .int i tk0)]) _ _ _
    have hlim := I1.nolimit
    obtain ⟨mb, hb1, hb2⟩ := I1.mod.blt
    have G := I1.mod.glob.keeps I1.bk
    have B := hb1.keeps I1.bk
    obtain ⟨hp, g, dr, tk, os⟩ := s1
    refine wpAny_call (PySem.EiX.idx_made T I1.kIn hlim G B ((hb2 _ (by decide)).trans (by first | rfl | decide +kernel)) (by have := hr.dp; omega) hi fun h' tk' e d M => ?_)
    show L2N.MkP X pins σ Q (.ref e) ⟨h', g, dr, tk', os⟩
    obtain ⟨oe, fv, hoe, hc, hd, hdat, h1⟩ := M.obj
    have hns := M.ns
    obtain ⟨G', g1, g2⟩ := restrict h' fun b => decide (b ≠ e)
    have gk : ∀ b, b ≠ e → G'.get? b = h'.get? b := fun b hb => g1 b (decide_eq_true hb)
    have ge : G'.get? e = none := g2 e (by simp)
    have old : ∀ b o, hp.get? b = some o → G'.get? b = some o := fun b o q => (gk b (Nat.ne_of_lt (Nat.lt_of_lt_of_le (Heap.lt_size q) M.new))).trans (M.keep b o q)
    have ob : ObjOk X.prog X.w (upd H1 d (.xd [(("index" : Str), .int i)])) G' d (.xd [(("index" : Str), .int i)]) :=
      ⟨_, hns.at (fun o q => (gk d M.dne).trans q), fun f => relO_idx (v := .int i) (v' := .int i tk0) ⟨tk0, rfl⟩ f⟩
    have J : Inv X pins σ (upd H1 d (.xd [(("index" : Str), .int i)])) ⟨G', g, dr, tk', os⟩ := I1.laid (t' := tk') old M.dbig ob
    refine ⟨e, oe, fv, ⟨G', g, dr, tk', os⟩, _, .ref C, some d, rfl, J, fun b o q => ?_, ge, hoe, ⟨hc, hd, fun vs q => M.ctx oe vs hoe q⟩, hdat, h1, ?_, rfl, I1.bare, raises_own T.sub T.ty, q1 d (I1.hok.fresh M.dbig)⟩
    · by_cases hb : b = e
      · have q' : G'.get? b = some o := q
        rw [hb, ge] at q'; cases q'
      · exact (gk b hb).symm.trans q
    · rw [upd_ne (Ne.symm M.dne)]
      exact I1.hok.fresh M.new
end
section
variable {P : Program} {w : World} {K : PySem.W.Frag} {mg : Str → Option Value} {base : Heap}
theorem Fun_okN {x qual : Str} {st : Stmt} {f : Addr} {fd : FuncData} {N ps : List Str} {k : Nat} {sp : Sp} (F : Fun K x qual st f fd) (S : FnScope N ps (defScope st)) (len : ∀ vs H Q E, sp vs H Q E → vs.length = ps.length)
    (hb : ∀ (cdv : Value) (A : Around) (outer : List Env) (s : Shared) (H : Hp) (vs : List V) (Q : VK) (E : XK), Room k (A.deeper (envOfC qual (defScope st) s.heap.objs.size f cdv)) → sp vs H Q E →
      ∃ t, PSs (cxOf (L2N.CX P w) P w K mg base N qual (defScope st) f cdv A outer s H E) (defBody st) t ∧ t { nx := fun _ H' => Q .non H', rt := Q } (start N vs) H) : FnOk P w K mg base (L2N.CX P w) (k + 1) f fd ps sp := by
  obtain ⟨oc, od, kV, doc, pm, an, cdv, ct, osl, rfl, lk, hcd⟩ := F.ex; exact fn_of lk hcd S len fun A outer s H vs Q E hr hsp => hb cdv A outer s H vs Q E hr hsp
end
structure DnN (P : Program) (w : World) (K : PySem.W.Frag) (mg : Str → Option Value) (base : Heap) (k : Nat) (x : Str) (f : Addr) (sp : Sp) : Prop where
  ok : FnR P w K mg base (L2N.CX P w) k f sp
  at_ : mg x = some (.ref f)
  kp : PySem.W.keepIn K (Value.ref f) = true
/-- without a context is less than with one -/
theorem cx_less {P : Program} {w : World} {outer : List Env} {H : Hp} {s : Shared} {E : XK} {u : Value} {s' : Shared} (h : L2N.CX P w outer H s E u s') : L2.CX P w outer H s E u s' := by
  obtain ⟨a, B, H', cls, d, e, fl, r⟩ := h
  exact ⟨a, B, H', cls, d, e, L2H.flyingZ_imp (fun o z => z.zc) fl, r⟩
theorem fnr_less {P : Program} {w : World} {K : PySem.W.Frag} {mg : Str → Option Value} {base : Heap} {k : Nat} {f : Addr} {sp : Sp} (F : FnR P w K mg base (L2N.CX P w) k f sp) : FnR P w K mg base (L2.CX P w) k f sp := by
  intro A outer s H us vs Q E hr e0 r h
  refine codeAny_mono (F A outer s H us vs Q E hr e0 r h) fun z s' hq => ?_
  cases z with
  | error e => exact cx_less hq
  | ok fl =>
    cases fl with
    | ret u => exact hq
    | next => exact hq
    | brk => exact hq
    | cont => exact hq
end Cc

/-! The __init__ of an own error: super().__init__(f'.. {row} ..'); self.row = row. -/
namespace PySem
namespace ErX
open PySem.W PySem.Calls PyProof.Rows PySem.HandSPX PySem.EiX
def iA (p1 p2 : Pos) : Arguments := { posonlyargs := [], args := [{ arg := "self", annotation := none, pos := p1 }], vararg := none, kwonlyargs := [{ arg := "row", annotation := none, pos := p2 }], kw_defaults := [none], kwarg := none, defaults := [] }
def iB (t1 t2 : Str) (a1 a2 a3 a4 a5 a6 a7 a8 a9 a10 b1 b2 b3 b4 : Pos) : List Stmt := [
  .Expr (.Call (.Attribute (.Call (.Name "super" a1) [] [] a2) "__init__" a3) [.JoinedStr [.Constant (.str t1) 0 a4, .FormattedValue (.Name "row" a5) (-1) none a6, .Constant (.str t2) 0 a7] a8] [] a9) a10,
  .Assign [.Attribute (.Name "self" b1) "row" b2] (.Name "row" b3) b4]
def iS : Scope := { kind := .function, names := [(PySem.Str.ofString "self", .local), (PySem.Str.ofString "row", .local), (PySem.Str.ofString "__class__", .free), (PySem.Str.ofString "super", .globalImplicit)], isGenerator := false, isCoroutine := false, more := [] }
/-- what is asked of such a class, at C, and of its __init__, at fI -/
structure EiTxt (P : Program) (K : Frag) (mg : Str → Option Value) (x : Str) (C fI : Addr) : Prop where
  at_ : mg x = some (.ref C)
  (kp : keepIn K (.ref C) = true)
  cls : ∃ nm q N bs bm sn sub ab col dd k0 k1 k2 k3 k5, K.lookup C = some (excClassObj nm q C N bs bm true sn sub ab col dd k0 k1 k2 k3 k5 "ValueError.__new__") ∧ refsVE bm = true
  sa : findIn K (.ref C) "__setattr__" = some (some (.builtin "object.__setattr__"))
  noN : findIn K (.ref C) "row" = some none
  iC : findIn K (.ref C) "__init__" = some (some (.ref fI))
  tC : typeIn K (.ref fI) = some (.type "function")
  sub : subIn K (.ref C) (.type "BaseException") = some true
  ty : typeIn K (.ref C) = some (.type "type")
  sve : subIn K (.ref C) (.type "ValueError") = some true
  sup : ks_superIn K C C "__init__" = some (some (.builtin "ValueError.__init__"))
  opq : nsIn K cStatics "thirdparty.any" = some none
  nsu : mg "super" = none
  htop : (P.main.scope.names.lookup ("super" : Str)).isSome = false
  fn : ∃ (cc cda : Addr) (oc : Value) (od : Option Addr) (kV doc pm : Value) (an : Option Addr) (ct : Value) (osl : Array (Option Value)) (qual t1 t2 : Str) (p1 p2 a1 a2 a3 a4 a5 a6 a7 a8 a9 a10 b1 b2 b3 b4 : Pos) (cl ccl : Value) (cld cdd : Option Addr) (csl ccs : Array (Option Value)) (vs : Array Value) (file : Str) (tf : Tok),
    K.lookup fI = some ⟨oc, od, .func (ksFn "__init__" qual (iA p1 p2) (iB t1 t2 a1 a2 a3 a4 a5 a6 a7 a8 a9 a10 b1 b2 b3 b4) iS .none kV doc pm an (.ref cda) ct cc), osl⟩ ∧ codeIn K (.ref cda) qual = true ∧
    K.lookup cc = some ⟨cl, cld, .cell (some (.ref C)), csl⟩ ∧ K.lookup cda = some ⟨ccl, cdd, .fields vs, ccs⟩ ∧ vs[2]? = some (.str file tf) ∧ ((P.main.file : Str) == file) = true ∧ t1.length ≤ 1000 ∧ t2.length ≤ 1000 ∧ (a3.endLine == a9.line) = true
/-- what __init__ leaves of a fresh exception at x -/
structure InitEnd (h h' : Heap) (x C dx : Addr) (v : Value) : Prop where
  keep : ∀ b o, b ≠ x → h.get? b = some o → h'.get? b = some o
  obj : ∃ t1 : Addr, h'.get? x = some { cls := .ref C, dict := some dx, data := .fields #[.ref t1, .none, .none, .none, .bool false, .none] }
  dbig : h.objs.size ≤ dx
  dne : dx ≠ x
  ns : h'.Ns1 dx (fun y => if y = "row" then some v else none)
theorem ldC {M : Model} {s : Shared} {env : Env} {m : Str → Option Value} {x : Str} {pos : Pos} {v : Value} {Q : Value → Shared → Prop} {A : Around} {E : Value → Shared → Prop} (hn : s.heap.Ns env.locals m) (hv : m x = some v) (h : Q v s)
    (hk : env.scope.kind = .function := by rfl) (hl : env.kindOf x = some .local := by rfl) (hd : (x == ("__debug__" : Str)) = false := by decide) :
    wpAny M A (eval (.Name x pos) env) Q E s := wpAny_Name (wpAny_loadName_local hk hl hn hv h) hd
/-- super().__init__ bound to the new exception, called -/
theorem call_mw {prog : Program} {w : World} {A : Around} {Er : Value → Shared → Prop} {h : Heap} {gn : Array GenState} {dw : Drawn} {tn : Nat} {sys : OsState} {C u e t0 : Addr} {p : Parts} {rest : List Value} {Q : Value → Shared → Prop}
    (cl : p.at h C) (he : h.get? e = some (excO C t0)) (hu : h.get? u = some (kxs_mw "ValueError.__init__" e)) (hrest : rest.length ≤ sizeLine)
    (hq : ∀ h' t1, (∀ b o, b ≠ e → h.get? b = some o → h'.get? b = some o) → h'.get? e = some (excO C t1) → Q .none ⟨h', gn, dw, tn, sys⟩) :
    wpAny (model prog w) A (call (.ref u) rest) Q Er ⟨h, gn, dw, tn, sys⟩ := by
  have isW : (Value.type "method-wrapper" == Value.type "method" || Value.type "method-wrapper" == Value.type "builtin_function_or_method" || Value.type "method-wrapper" == Value.type "method-wrapper") = true := by decide
  refine wpAny_call (codeAny_of_tree (show wpAny _ A.in1 (callAny (.ref u) ⟨rest, []⟩) _ _ _ from ?_))
  simp only [callAny]; refine wpAny_bind (wpAny_load hu ?_); simp only [kxs_mw, isW, if_true]
  refine KFB.if_so (by decide) (wpAny_bind (check_bound_init F.excBase_ValueError.toExcCallFacts cl he rfl (wpAny_bind (wpAny_pure (wpAny_pure ⟨plainId_quiet F.excBase_ValueError.init.plain _, codeAny_builtin F.excBase_ValueError.initEntry ?_⟩)))))
  exact exc_init_tree (cls := .ref C) (t0 := t0) (dv := none) (c2 := .none) (c3 := .none) (b4 := .bool false) he hrest fun h' k e' t' => hq h' _ k e'
theorem mc_eq {ob : Expr} {nme : Str} {vs : List Expr} {a3 a8 a9 : Pos} {env : Env} (hl : (a3.endLine == a9.line) = true) : eval (.Call (.Attribute ob nme a3) [.JoinedStr vs a8] [] a9) env = (do
    let ov ← attributeBase ob nme env (eval ob env)
    standAt a3.atName
    let (f, first) ← holding [ov] (getMethod ov nme (do return (← importBound ob env).getD true))
    callWith a9 f first (backTo a9 (starEach [.JoinedStr vs a8] env)) []) := by
  rw [arm_eval_Call]
  have e : methodCallForm (([Expr.JoinedStr vs a8] : List Expr).length + ([] : List Keyword).length) (backTo a9 (starEach [.JoinedStr vs a8] env)) (backToKw a9 (keywordEach [] env)) = true := by rfl
  unfold methodCall
  rw [e]
  unfold calleeOf methodCallPos
  rw [hl]
  rfl
theorem log_small {i : Int} (h0 : -(2 ^ 64) < i) (h1 : i < 2 ^ 64) : i.natAbs.log2 < 1920 := Cc.log_small h0 h1
theorem text_bound {i : Int} (h0 : -(2 ^ 64) < i) (h1 : i < 2 ^ 64) : (Str.ofString (toString i)).length ≤ 2000 := by
  have e := int_text_length_le (k := 1920) (by decide) (log_small h0 h1)
  rw [PySem.ofString_length]
  omega
theorem empty_len : Str.empty.length = 0 := by decide +kernel
section
variable {prog : Program} {w : World} {A : Around} {R : Result → Shared → Prop} {s : Shared} {K : Frag} {mg mb : Str → Option Value} {X : Str} {C fI : Addr}
theorem idx_init (T : EiTxt prog K mg X C fI) {x t0 : Addr} {i : Int} {tk0 : Tok} (KX : K.In s.heap) (hlim : s.heap.NoLimit) (hg : s.heap.Ns mainGlobals mg) (hb : s.heap.Ns builtinsNs mb) (hsu : mb "super" = some (.type "super"))
    (hx : s.heap.get? x = some (excO C t0)) (hnx : K.lookup x = none) (hroom : A.depth < recursionLimit) (hi : -(2 ^ 64) < i ∧ i < 2 ^ 64)
    (hq : ∀ h' tk dx, InitEnd s.heap h' x C dx (.int i tk0) → R (.ok (.ret .none)) { s with heap := h', toks := tk }) :
    codeAny (model prog w) A (.call (.ref fI) ⟨[.ref x], [("row", .int i tk0)]⟩) R s := by
  obtain ⟨cc, cda, oc, od, kV, doc, pm, an, ct, osl, qual, t1, t2, p1, p2, a1, a2, a3, a4, a5, a6, a7, a8, a9, a10, b1, b2, b3, b4, cl, ccl, cld, cdd, csl, ccs, vs, file, tf, ho, hcd, hcc, hcda, hvs, hfile, l1, l2, hln⟩ := T.fn
  obtain ⟨nm, q, N, bs, bm, sn, sub, ab, col, dd, k0, k1, k2, k3, k5, hC, hbm⟩ := T.cls
  have hcl : clsIn K C = some { name := nm, bases := bs, mro := .ref C :: bm, ns := N, qualname := q, hasDict := true, slotNames := sn, subclasses := sub, abstract := ab, collection := col, hasDel := false } := by unfold clsIn; rw [hC] <;> rfl
  have hmro : mroIn K C (.ref C) = some true := by
    unfold mroIn
    rw [hcl, Option.bind_some, if_neg (show ¬ (List.isEmpty (Value.ref C :: bm) = true) from Bool.false_ne_true)]
    simp
  have hxC : x ≠ C := fun z => by rw [z, hC] at hnx; cases hnx
  refine ks_codeAny_call_defAt (fd := ksFn "__init__" qual (iA p1 p2) (iB t1 t2 a1 a2 a3 a4 a5 a6 a7 a8 a9 a10 b1 b2 b3 b4) iS .none kV doc pm an (.ref cda) ct cc) (body := iB t1 t2 a1 a2 a3 a4 a5 a6 a7 a8 a9 a10 b1 b2 b3 b4) (binds := [("self", .ref x), ("row", .int i tk0)])
    hroom (KX _ _ ho) rfl hlim (codeRec_of KX hcd) rfl (BindsTo.of_eq (by first | rfl | with_unfolding_all rfl)) (show ∀ y ∈ iS.names, y.2 ≠ .cell by decide) (fun y hy => ?_) (fun h₀ hns hk => ?_)
  · rcases (List.mem_cons.mp hy) with rfl | hy
    · rfl
    · rw [List.mem_singleton.mp hy]
      rfl
  · have KX₀ : K.In h₀ := KX.keeps hk
    have hns' := hns
    have hself : ([("self", .ref x), ("row", .int i tk0)] : List (Str × Value)).reverse.lookup ("self" : Str) = some (Value.ref x) := by first | rfl | with_unfolding_all rfl | kernel_rfl
    have hidx : ([("self", .ref x), ("row", .int i tk0)] : List (Str × Value)).reverse.lookup ("row" : Str) = some (Value.int i tk0) := by first | rfl | with_unfolding_all rfl | kernel_rfl
    refine ks_wpAt_execs_cons (ks_wpAt_Expr_any (ks_wpAt_MethodCall ?_ (mc_eq hln)))
    refine ks_wpAt_super_base (f := fI) (cc := cda) (of := _) (oc := _) (vs := vs) (file := file) (tf := tf) rfl rfl (by decide) rfl (KX₀ _ _ ho) rfl rfl rfl (KX₀ _ _ hcda) rfl hvs hfile T.htop ?_
    refine ks_loadName_global rfl rfl (loadGlobal_builtin (hg.keeps hk) T.nsu (hb.keeps hk) hsu ⟨rfl, ?_⟩)
    refine wpAny_loadName_free rfl rfl rfl ⟨_, KX₀ _ _ hcc, rfl⟩ ?_
    refine wpAny_loadName_local rfl rfl hns hself ?_
    refine ks_wpAny_isType_cls (KX₀ _ _ hC) rfl ⟨rfl, ?_⟩
    refine ks_wpAny_call_super (KX₀ _ _ hC) rfl (hk _ _ hx) rfl (fun c z => nomatch z) (looks_mroIn KX₀ hmro) (fun h₁ e₁ kk₁ => ?_)
    have KX₁ : K.In h₁ := KX₀.keeps kk₁
    have hx₁ : h₁.get? x = some (excO C t0) := kk₁ _ _ (hk _ _ hx)
    have I₁ : InstAt h₁ x (excO C t0) C none := ⟨hx₁, rfl, rfl, trivial⟩
    have hso := e₁
    have hIV : Looks (model prog w) h₁ (isInstance (.ref x) (.type "ValueError")) true := I₁.type.andThen (looks_subIn KX₁ T.sve)
    have hsup : alongIn K "__init__" (((Value.ref C :: bm).dropWhile (· != .ref C)).drop 1) = some (some (.builtin "ValueError.__init__")) := by
      have z := T.sup
      unfold ks_superIn at z
      rw [hcl] at z
      exact z
    refine kxs_getMethod kxs_ValueError hso (looks_opaque KX₁ T.opq) (l₀ := .ref C :: bm) (fun A Q E s k q => wpAny_bind ((looks_clsIn KX₁ hcl) A _ E s k (wpAny_pure q))) rfl KX₁ hsup hIV hxC (by decide) ?_
    have k₂ : ∀ b o, h₁.get? b = some o → (h₁.push (kxs_mw "ValueError.__init__" x)).get? b = some o := fun b o e => Heap.get?_push_of_some _ e
    refine kxs_callWith (i := "ValueError.__init__") (x := x) rfl (evalArgs_plain (spliced_cons ?_))
    have li := text_bound hi.1 hi.2
    refine JoinedStr_many (pos := a8) (joinParts_cons ?_)
    refine wpAny_Constant_str (k := 0) (pos := a4) ⟨?_, joinParts_cons ?_⟩
    · simp only [Str.length_append, sizeLine_eq, empty_len]
      omega
    refine FormattedValue_plain (pos := a6) (ldC (pos := a5) (hns.keeps fun b o e => k₂ b o (kk₁ b o e)) hidx (formatField_int_small (log_small hi.1 hi.2) ⟨?_, joinParts_cons ?_⟩))
    · simp only [Str.length_append, sizeLine_eq, empty_len]
      omega
    refine wpAny_Constant_str (k := 0) (pos := a7) ⟨?_, joinParts_nil ?_ ?_⟩
    · simp only [Str.length_append, sizeLine_eq, empty_len]
      omega
    · refine spliced_nil ⟨Heap.get?_push_at rfl rfl, ?_⟩
      refine call_mw (p := ⟨nm, q, N, bs, bm, sub, true, sn, ab, col, dd, k0, k1, k2, k3, k5⟩) (k₂ _ _ (KX₁ _ _ hC)) (k₂ _ _ hx₁) (Heap.get?_push_at rfl rfl) (by show 1 ≤ sizeLine; rw [sizeLine_eq]; decide) (fun h₃ t3 k₃ hx₃ => ?_)
      have kk : ∀ b o, b ≠ x → s.heap.get? b = some o → h₃.get? b = some o := fun b o hb e => k₃ b o hb (k₂ b o (kk₁ b o (hk b o e)))
      have KX₃ : K.In h₃ := fun b o e => kk b o (fun z => by rw [z] at e; rw [e] at hnx; cases hnx) (KX b o e)
      have hLx : s.heap.objs.size ≠ x := Nat.ne_of_gt (Heap.lt_size hx)
      obtain ⟨oL, esL, epL, hoL, rL⟩ := hns
      have hns₃ : h₃.Ns s.heap.objs.size (fun y => ([("self", .ref x), ("row", .int i tk0)] : List (Str × Value)).reverse.lookup y) := ⟨oL, esL, epL, k₃ _ _ hLx (k₂ _ _ (kk₁ _ _ hoL)), rL⟩
      refine ks_wpAt_execs_cons (wpAt_of_wpAny (plainObj_wpAny_Assign_Attribute ?_))
      refine ldC hns₃ hidx (ldC hns₃ hself ?_)
      refine set_plain KX₃ (ox := excO C t3) (od := none) ⟨hx₃, rfl, rfl, trivial⟩ T.sa ?_
      refine exc_osa KX₃ hx₃ hcl (show refsVE (.ref C :: bm) = true from hbm) rfl T.noN (fun h₄ tk₄ dx k₄ dn dne hx₄ hn₄ => ?_)
      refine wpAt_of_wpAny (wpAny_execs_nil (hq h₄ tk₄ dx ⟨fun b o hb e => k₄ b o hb (kk b o hb e), ⟨_, hx₄⟩, ?_, dne, hn₄⟩))
      have z : s.heap.objs.size < h₃.objs.size := Heap.lt_size (k₃ _ _ hLx (k₂ _ _ (kk₁ _ _ hoL)))
      exact Nat.le_of_lt (Nat.lt_of_lt_of_le z dn)
    · simp only [Str.length_append, sizeLine_eq, empty_len]
      omega
end
end ErX
end PySem

/-! X(index = e), an own error made. -/
namespace PySem
namespace ErX
open PySem.EiX
open PySem.W PySem.Calls PyProof.Rows PySem.HandSPX
/-- a made error -/
structure OwnMade (h h' : Heap) (e C d : Addr) (v : Value) : Prop where
  keep : ∀ b o, h.get? b = some o → h'.get? b = some o
  new : h.objs.size ≤ e
  obj : ∃ oe vs, h'.get? e = some oe ∧ oe.cls = .ref C ∧ oe.dict = some d ∧ oe.data = .fields vs ∧ vs[1]? = some .none
  dbig : h.objs.size ≤ d
  dne : d ≠ e
  ns : h'.Ns1 d (fun y => if y = "row" then some v else none)
  ctx : ∀ oe vs, h'.get? e = some oe → oe.data = .fields vs → vs[2]? = some .none
  six : ∀ oe vs, h'.get? e = some oe → oe.data = .fields vs → 4 < vs.size
section
variable {prog : Program} {w : World} {A : Around} {R : Result → Shared → Prop} {s : Shared} {K : Frag} {mg mb : Str → Option Value} {X : Str} {C fI : Addr}
theorem idx_made (T : EiTxt prog K mg X C fI) {i : Int} {tk0 : Tok} (KX : K.In s.heap) (hlim : s.heap.NoLimit) (hg : s.heap.Ns mainGlobals mg) (hb : s.heap.Ns builtinsNs mb) (hsu : mb "super" = some (.type "super")) (hroom : A.depth + 1 < recursionLimit) (hi : -(2 ^ 64) < i ∧ i < 2 ^ 64)
    (hq : ∀ h' tk e d, OwnMade s.heap h' e C d (.int i tk0) → R (.ok (.ret (.ref e))) { s with heap := h', toks := tk }) :
    codeAny (model prog w) A (.call (.ref C) ⟨[], [("row", .int i tk0)]⟩) R s := by
  obtain ⟨nm, q, N, bs, bm, sn, sub, ab, col, dd, k0, k1, k2, k3, k5, hC, hbm⟩ := T.cls
  obtain ⟨hp, g, dr, tk, os⟩ := s
  have k : ∀ b o, hp.get? b = some o → ((hp.push (kdv_tup [])).push (excO C hp.objs.size)).get? b = some o := fun b o e => Heap.get?_push_of_some _ (Heap.get?_push_of_some _ e)
  have hget : ((hp.push (kdv_tup [])).push (excO C hp.objs.size)).get? (hp.objs.size + 1) = some (excO C hp.objs.size) := by heap_get
  have hnx : K.lookup (hp.objs.size + 1) = none := by
    cases e : K.lookup (hp.objs.size + 1) with
    | none => rfl
    | some o =>
      have z : hp.get? (hp.objs.size + 1) = some o := KX _ _ e
      exact absurd (Nat.lt_of_succ_lt (Heap.lt_size z)) (Nat.lt_irrefl _)
  refine made_run (p := ⟨nm, q, N, bs, bm, sub, true, sn, ab, col, dd, k0, k1, k2, k3, k5⟩) hbm (KX _ _ hC) (looks_findIn KX T.iC) (fun self => bind_fn KX self T.tC) ?_
  refine idx_init (s := ⟨(hp.push (kdv_tup [])).push (excO C hp.objs.size), g, dr, tk, os⟩) T (KX.keeps k) (hlim.keeps k) (hg.keeps k) (hb.keeps k) hsu hget hnx ?_ hi fun h' tk' dx ⟨k', ⟨t1, hx⟩, dn, dne, hns⟩ => ?_
  · show A.depth + 1 < recursionLimit
    exact hroom
  · have old : ∀ b o, hp.get? b = some o → h'.get? b = some o := fun b o e => k' b o (Nat.ne_of_lt (Nat.lt_succ_of_lt (Heap.lt_size e))) (k b o e)
    have z : hp.objs.size + 1 + 1 ≤ dx := by
      first
        | (simpa only [Heap.size_push] using dn)
        | exact dn
        | (have q := dn; rw [Heap.size_push, Heap.size_push] at q; exact q)
    exact ⟨rfl, hq h' tk' (hp.objs.size + 1) dx ⟨old, Nat.le_succ _, ⟨_, _, hx, rfl, rfl, rfl, rfl⟩, Nat.le_trans (Nat.le_trans (Nat.le_succ _) (Nat.le_succ _)) z, dne, hns, fun oe vs q qd => (by
      rw [hx] at q; cases q; cases qd; rfl), fun oe vs q qd => (by
      rw [hx] at q; cases q; cases qd; show (4 : Nat) < 6; decide)⟩⟩
end
end ErX
end PySem
namespace Cc
open PySem PySem.Spec PyProof.Rows L2
theorem relO_row {v : V} {v' : Value} (r : RelV v v') (f : Str) : RelO (List.lookup f [(("row" : Str), v)]) (if f = "row" then some v' else none) := by
  by_cases hw : f = "row"
  · subst hw
    rw [if_pos rfl]
    have q : List.lookup ("row" : Str) [(("row" : Str), v)] = some v := by simp [List.lookup]
    rw [q]
    exact r
  · rw [if_neg hw]
    have qw : (f == ("row" : Str)) = false := by simpa using hw
    have q2 : List.lookup f [(("row" : Str), v)] = none := by simp [List.lookup, qw]
    rw [q2]
    trivial
/-- X(index = e) -/
def tMkrow (C : Addr) (ta : TA) : L2.St → Hp → XK → Prop := fun σ H Q => ta σ H fun vs H1 => ∃ i : Int, vs = [.int i] ∧ (-(2 ^ 64) < i ∧ i < 2 ^ 64) ∧ ∀ d, H1 d = none → Q (.ref C) (some d) (upd H1 d (.xd [(("row" : Str), .int i)]))
section
variable {X : Cx}
theorem pmk_row {x : Str} {C fI : Addr} {e : Expr} {te : TE} {p kpos pos : Pos} {k : Nat} (T : PySem.ErX.EiTxt X.prog X.K X.mg x C fI) (hr : Room k X.A) (he : PE X e te) (hg : Gl X x) (hdb : (x == ("__debug__" : Str)) = false := by decide)
    (hall : (backToKw pos (keywordEach [⟨some "row", e, kpos⟩] X.env)).all (·.1.isSome) = true := by rfl) (hks : (backToKw pos (keywordEach [⟨some "row", e, kpos⟩] X.env)).filterMap (·.1) = [("row" : Str)] := by rfl)
    (hpl : ((backTo pos (starEach [] X.env)).any (·.1) || (backToKw pos (keywordEach [⟨some "row", e, kpos⟩] X.env)).any (·.1.isNone)) = false := by rfl) :
    PMk X (.Call (.Name x p) [] [⟨some "row", e, kpos⟩] pos) (tMkrow C (tCons te tNil)) := by
  intro pins s σ H Q I h
  refine wpAny_Call_Name_kw (ld_glob I hg T.at_ ?_ hdb)
  refine PySem.W.callWith_KW0 (h₀ := X.base) I.ok.mod.kin T.kp hall ?_ hpl
  refine thn ((pk_cons he pk_nil).run pos pins s σ H _ I h) fun ws s1 ⟨vs, H1, I1, r1, i, ev, hi, q1⟩ => ⟨I1.kIn, ?_⟩
  subst ev
  rw [hks]
  cases r1 with
  | cons rv rn =>
    rename_i v' us'
    cases rn
    obtain ⟨tk0, rfl⟩ := rv
    show wpAny _ _ (call (.ref C) [] [("row", .int i tk0)]) _ _ _
    have hlim := I1.nolimit
    obtain ⟨mb, hb1, hb2⟩ := I1.mod.blt
    have G := I1.mod.glob.keeps I1.bk
    have B := hb1.keeps I1.bk
    obtain ⟨hp, g, dr, tk, os⟩ := s1
    refine wpAny_call (PySem.ErX.idx_made T I1.kIn hlim G B ((hb2 _ (by decide)).trans (by first | rfl | decide +kernel)) (by have := hr.dp; omega) hi fun h' tk' e d M => ?_)
    show MkP X pins σ Q (.ref e) ⟨h', g, dr, tk', os⟩
    obtain ⟨oe, fv, hoe, hc, hd, hdat, h1⟩ := M.obj
    have hns := M.ns
    obtain ⟨G', g1, g2⟩ := restrict h' fun b => decide (b ≠ e)
    have gk : ∀ b, b ≠ e → G'.get? b = h'.get? b := fun b hb => g1 b (decide_eq_true hb)
    have ge : G'.get? e = none := g2 e (by simp)
    have old : ∀ b o, hp.get? b = some o → G'.get? b = some o := fun b o q => (gk b (Nat.ne_of_lt (Nat.lt_of_lt_of_le (Heap.lt_size q) M.new))).trans (M.keep b o q)
    have ob : ObjOk X.prog X.w (upd H1 d (.xd [(("row" : Str), .int i)])) G' d (.xd [(("row" : Str), .int i)]) :=
      ⟨_, hns.at (fun o q => (gk d M.dne).trans q), fun f => relO_row (v := .int i) (v' := .int i tk0) ⟨tk0, rfl⟩ f⟩
    have J : Inv X pins σ (upd H1 d (.xd [(("row" : Str), .int i)])) ⟨G', g, dr, tk', os⟩ := I1.laid (t' := tk') old M.dbig ob
    refine ⟨e, oe, fv, ⟨G', g, dr, tk', os⟩, _, .ref C, some d, rfl, J, fun b o q => ?_, ge, hoe, ⟨hc, hd⟩, hdat, h1, ?_, rfl, I1.bare, raises_own T.sub T.ty, q1 d (I1.hok.fresh M.dbig)⟩
    · by_cases hb : b = e
      · have q' : G'.get? b = some o := q
        rw [hb, ge] at q'; cases q'
      · exact (gk b hb).symm.trans q
    · rw [upd_ne (Ne.symm M.dne)]
      exact I1.hok.fresh M.new
end
end Cc

/-! X(row = e), made where it is raised from None. -/
namespace Cc
open PySem PySem.Spec PyProof.Rows L2
section
variable {X : Cx}
theorem pmk5_row {x : Str} {C fI : Addr} {e : Expr} {te : TE} {p kpos pos : Pos} (T : PySem.ErX.EiTxt X.prog X.K X.mg x C fI) (hr : X.A.depth + 1 < recursionLimit) (he : PE X e te) (hg : Gl X x) (hdb : (x == ("__debug__" : Str)) = false := by decide)
    (hall : (backToKw pos (keywordEach [⟨some "row", e, kpos⟩] X.env)).all (·.1.isSome) = true := by rfl) (hks : (backToKw pos (keywordEach [⟨some "row", e, kpos⟩] X.env)).filterMap (·.1) = [("row" : Str)] := by rfl)
    (hpl : ((backTo pos (starEach [] X.env)).any (·.1) || (backToKw pos (keywordEach [⟨some "row", e, kpos⟩] X.env)).any (·.1.isNone)) = false := by rfl) :
    L2H.PMk5 X (.Call (.Name x p) [] [⟨some "row", e, kpos⟩] pos) (tMkrow C (tCons te tNil)) := by
  intro pins s σ H Q I h
  refine wpAny_Call_Name_kw (ld_glob I hg T.at_ ?_ hdb)
  refine PySem.W.callWith_KW0 (h₀ := X.base) I.ok.mod.kin T.kp hall ?_ hpl
  refine thn ((pk_cons he pk_nil).run pos pins s σ H _ I h) fun ws s1 ⟨vs, H1, I1, r1, i, ev, hi, q1⟩ => ⟨I1.kIn, ?_⟩
  subst ev
  rw [hks]
  cases r1 with
  | cons rv rn =>
    rename_i v' us'
    cases rn
    obtain ⟨tk0, rfl⟩ := rv
    show wpAny _ _ (call (.ref C) [] [("row", .int i tk0)]) _ _ _
    have hlim := I1.nolimit
    obtain ⟨mb, hb1, hb2⟩ := I1.mod.blt
    have G := I1.mod.glob.keeps I1.bk
    have B := hb1.keeps I1.bk
    obtain ⟨hp, g, dr, tk, os⟩ := s1
    refine wpAny_call (PySem.ErX.idx_made T I1.kIn hlim G B ((hb2 _ (by decide)).trans (by first | rfl | decide +kernel)) hr hi fun h' tk' e d M => ?_)
    refine ⟨?_, fun a o vs ea q qd => by cases ea; exact M.six o vs q qd⟩
    show L2N.MkP X pins σ Q (.ref e) ⟨h', g, dr, tk', os⟩
    obtain ⟨oe, fv, hoe, hc, hd, hdat, h1⟩ := M.obj
    have hns := M.ns
    obtain ⟨G', g1, g2⟩ := restrict h' fun b => decide (b ≠ e)
    have gk : ∀ b, b ≠ e → G'.get? b = h'.get? b := fun b hb => g1 b (decide_eq_true hb)
    have ge : G'.get? e = none := g2 e (by simp)
    have old : ∀ b o, hp.get? b = some o → G'.get? b = some o := fun b o q => (gk b (Nat.ne_of_lt (Nat.lt_of_lt_of_le (Heap.lt_size q) M.new))).trans (M.keep b o q)
    have ob : ObjOk X.prog X.w (upd H1 d (.xd [(("row" : Str), .int i)])) G' d (.xd [(("row" : Str), .int i)]) :=
      ⟨_, hns.at (fun o q => (gk d M.dne).trans q), fun f => relO_row (v := .int i) (v' := .int i tk0) ⟨tk0, rfl⟩ f⟩
    have J : Inv X pins σ (upd H1 d (.xd [(("row" : Str), .int i)])) ⟨G', g, dr, tk', os⟩ := I1.laid (t' := tk') old M.dbig ob
    refine ⟨e, oe, fv, ⟨G', g, dr, tk', os⟩, _, .ref C, some d, rfl, J, fun b o q => ?_, ge, hoe, ⟨hc, hd, fun vs q => M.ctx oe vs hoe q⟩, hdat, h1, ?_, rfl, I1.bare, raises_own T.sub T.ty, q1 d (I1.hok.fresh M.dbig)⟩
    · by_cases hb : b = e
      · have q' : G'.get? b = some o := q
        rw [hb, ge] at q'; cases q'
      · exact (gk b hb).symm.trans q
    · rw [upd_ne (Ne.symm M.dne)]
      exact I1.hok.fresh M.new
end
theorem cxUpN {P : Program} {w : World} : StX.CXUp (L2N.CX P w) := by
  intro outer s H s2 H2 E e s' un kp ho h
  obtain ⟨a, B, H', cls, d, ea, fl, hok, ub, na, os, ag, he⟩ := h
  have fr : ∀ b o, s.heap.get? b = some o → H b = none → H2 b = none := fun b o q n => un.free b o q n (by simp)
  have tb : ∀ b ps, H b = some (.tbl ps) → ∃ more, H' b = some (.tbl (ps ++ more)) := fun b ps q => (un.tbls b ps q).elim fun m1 e1 => (ub.tbls b _ e1).elim fun m2 e2 => ⟨m1 ++ m2, e2.trans (by rw [Array.append_assoc])⟩
  exact ⟨a, B, H', cls, d, ea, fl, hok, ⟨fun b o q n hb => ub.keep b o (kp b o q) (fr b o q n) hb, fun b o q hb => ub.slot b o (kp b o q) hb, fun b o q n => ub.free b o (kp b o q) (fr b o q n), fun b o q hb => ub.there b o (kp b o q) hb, fun b xs q => ub.tups b xs (un.tups b xs q), fun b o xs q => ub.frzs b o xs (un.frzs b o xs q), tb⟩, na, os.trans ho, ag, he⟩
end Cc

/-! Meetings that may be booked, where a number may be missing. -/
namespace Cc
open PySem PySem.Spec PyProof.Rows L2 TL
def okMeet (r : Str) (n : Int) : Bool := (decide (r = "red") || decide (r = "blue")) && decide (0 ≤ n ∧ n ≤ 1000000000000000000)
def inB (lo hi : Int) : Option Int → Bool
  | none => false
  | some v => decide (lo ≤ v ∧ v ≤ hi)
def okMeetO (r : Str) (o : Option Int) : Bool := (decide (r = "red") || decide (r = "blue")) && inB 0 1000000000000000000 o
theorem okMeetO_some {r : Str} {o : Option Int} (h : okMeetO r o = true) : ∃ n, o = some n ∧ okMeet r n = true := by
  cases o with
  | none =>
    unfold okMeetO inB at h
    rw [Bool.and_false] at h
    exact nomatch h
  | some n => exact ⟨n, rfl, h⟩
def spIsNumG : Sp := fun vs H Q _ => ∃ (o : Option Int) (l m : Int), vs = [goalV o, .int l, .int m] ∧ Q (.bl (inB l m o)) H
def spChkMeetO (EB : Addr) : Sp := fun vs H Q E => ∃ (r : Str) (o : Option Int), vs = [.str r, goalV o] ∧ (okMeetO r o = true → ∀ H', Same H H' → Q .non H') ∧ (okMeetO r o = false → ∀ H', Same H H' → E (.ref EB) none H')
def spChkCntO (EB : Addr) : Sp := fun vs H Q E => ∃ (o : Option Int), vs = [goalV o] ∧ (inB 1 60 o = true → Q .non H) ∧ (inB 1 60 o = false → ∀ H', Same H H' → E (.ref EB) none H')
section
variable {P : Program} {w : World} {K : PySem.W.Frag} {mg : Str → Option Value} {base : Heap} {C EB TU pS gS fO fW : Addr} {mc : Value}
theorem ok_isnumG {f fW : Addr} {fd : FuncData} (F : Fun K "is_number" "is_number" sIsNum f fd) (W : Dn P w K mg base 0 "is_whole" fW spIsWholeO) : FnOk P w K mg base CX0 1 f fd ["value", "least", "most"] spIsNumG := by
  refine F.ok scIsNum (fun vs H Q E h => ?_) (fun cdv A outer s H vs Q E hr h => ?_)
  · obtain ⟨v, l, m, rfl, _⟩ := h
    rfl
  · obtain ⟨o, l, m, rfl, k⟩ := h
    refine ⟨_, pss_one (ps_ret (pe_and (pe_callR W.ok hr rfl W.at_ W.kp pass0 (pa_cons (pv 0) pa_nil))
      (pe_one (pe_chain op_le op_le (pv 1) (pv 0) (pv 2))))), ?_⟩
    cases o with
    | none =>
      refine ⟨_, rfl, none, rfl, false, rfl, ?_⟩
      exact iteF k
    | some v =>
      refine ⟨_, rfl, some v, rfl, true, rfl, ?_⟩
      refine iteT ⟨_, rfl, _, rfl, _, _, rfl, rfl, _, rfl, ?_⟩
      have e0 : inB l m (some v) = decide (l ≤ v ∧ v ≤ m) := rfl
      rw [e0] at k
      by_cases c : l ≤ v
      · rw [decide_eq_true c]
        refine iteT ⟨_, rfl, _, _, rfl, rfl, ?_⟩
        have e : decide (v ≤ m) = decide (l ≤ v ∧ v ≤ m) := by simp [c]
        show Q (V.bl (decide (v ≤ m))) H
        rw [e]
        exact k
      · rw [decide_eq_false c]
        refine iteF ?_
        rw [decide_eq_false (fun z => c z.1)] at k
        exact k
abbrev s_check_meeting : Stmt := top 31
abbrev n_check_meeting : List Str := ["room", "need"]
theorem sc_check_meeting : FnScope n_check_meeting ["room", "need"] (defScope s_check_meeting) := ⟨rfl, rfl, rfl, by decide +kernel, rfl, by decide +kernel, by decide +kernel⟩
theorem okn_check_meeting {f : Addr} {fd : FuncData} (F : Fun K "check_meeting" "check_meeting" s_check_meeting f fd) (T : Txt K mg C TU pS gS mc) (XB : Err K mg "InvalidBooking" EB) (DO : Dn P w K mg base 1 "is_number" fO spIsNumG) : FnOk P w K mg base (L2N.CX P w) 2 f fd ["room", "need"] (spChkMeetO EB) := by
  refine Fun_okN F sc_check_meeting (fun vs H Q E h => ?_) (fun cdv A outer s H vs Q E hr h => ?_)
  · obtain ⟨r, n, rfl, _⟩ := h
    rfl
  · obtain ⟨r, o, rfl, k1, k2⟩ := h
    obtain ⟨u, hu⟩ := T.cc
    obtain ⟨bmB, Bn, newId, initId, XB_F, XB_q⟩ := XB.ex
    refine ⟨_, pss_cons (ps_if (pt_cmpR op_notIn_seq (pv 0) (pe_tup (pa_cons pe_str (pa_cons pe_str pa_nil))) (by rfl))
        (pss_one (L2N.ps_raise (W := fun cls d _ H => E cls d H) rfl (L2N.takes_of rfl rfl rfl rfl) (pmk_anyN XB_F XB_q XB.at_ XB.kp (raises_own XB.sub XB.ty) rfl (pa_cons pe_str pa_nil)))) pss_nil)
      (pss_one (ps_if (pt_not (pt_val (pe_callR DO.ok (hr.mono (by decide)) rfl DO.at_ DO.kp pass0 (pa_cons (pv 1) (pa_cons pe_int (pa_cons (ClX.pe_cval (pe_glob (v := .ref C) rfl T.gP rfl)) pa_nil))))))
        (pss_one (L2N.ps_raise (W := fun cls d _ H => E cls d H) rfl (L2N.takes_of rfl rfl rfl rfl) (pmk_anyN XB_F XB_q XB.at_ XB.kp (raises_own XB.sub XB.ty) rfl (pa_cons pe_str pa_nil)))) pss_nil)), ?_⟩
    refine ⟨_, rfl, by show 2 ≤ sizeLine; decide, fun l hl => ⟨l, _, rfl, .inr (SqT.of upd_same), rfl, rfl, _, rfl, ?_⟩⟩
    have s1 := same_upd (o := .tup [.str "red", .str "blue"]) hl
    by_cases hr0 : r = "red" ∨ r = "blue"
    · refine ifF (by rcases hr0 with rfl | rfl <;> decide +kernel) ?_
      refine ⟨_, rfl, C, mc, _, u, rfl, T.rd, hu, o, 0, _, rfl, _, rfl, ?_⟩
      have eo : okMeetO r o = inB 0 1000000000000000000 o := by
        unfold okMeetO
        rcases hr0 with rfl | rfl
        · rw [decide_eq_true rfl, Bool.true_or, Bool.true_and]
        · rw [decide_eq_true (rfl : Str.ofString "blue" = "blue"), Bool.or_true, Bool.true_and]
      rw [eo] at k1 k2
      cases hb : inB 0 1000000000000000000 o with
      | true => exact iteF (k1 hb _ s1)
      | false => exact iteT ⟨⟨_, rfl⟩, k2 hb _ s1⟩
    · have h1 : ¬ r = "red" := fun z => hr0 (.inl z)
      have h2 : ¬ r = "blue" := fun z => hr0 (.inr z)
      refine ifT (by simp [inV, eqV, fun z => h1 (Eq.symm z), fun z => h2 (Eq.symm z), Ne.symm h1, Ne.symm h2]) ⟨⟨_, rfl⟩, k2 ?_ _ s1⟩
      unfold okMeetO
      rw [decide_eq_false h1, decide_eq_false h2]
      rfl
abbrev s_check_meeting_count : Stmt := top 32
abbrev n_check_meeting_count : List Str := ["many"]
theorem sc_check_meeting_count : FnScope n_check_meeting_count ["many"] (defScope s_check_meeting_count) := ⟨rfl, rfl, rfl, by decide +kernel, rfl, by decide +kernel, by decide +kernel⟩
theorem okn_check_meeting_count {f : Addr} {fd : FuncData} (F : Fun K "check_meeting_count" "check_meeting_count" s_check_meeting_count f fd) (g_MAX_MEETINGS : ∃ u, mg "MAX_MEETINGS" = some u ∧ RelV (.int 60) u) (XB : Err K mg "InvalidBooking" EB) (DO : Dn P w K mg base 1 "is_number" fO spIsNumG) : FnOk P w K mg base (L2N.CX P w) 2 f fd ["many"] (spChkCntO EB) := by
  refine Fun_okN F sc_check_meeting_count (fun vs H Q E h => ?_) (fun cdv A outer s H vs Q E hr h => ?_)
  · obtain ⟨n, rfl, _⟩ := h
    rfl
  · obtain ⟨o, rfl, k1, k2⟩ := h
    obtain ⟨bmB, Bn, newId, initId, XB_F, XB_q⟩ := XB.ex
    obtain ⟨u_MAX_MEETINGS, m_MAX_MEETINGS, r_MAX_MEETINGS⟩ := g_MAX_MEETINGS
    refine ⟨_, pss_one (ps_if (pt_not (pt_val (pe_callR DO.ok (hr.mono (by decide)) rfl DO.at_ DO.kp pass0 (pa_cons (pv 0) (pa_cons pe_int (pa_cons (pe_glob rfl m_MAX_MEETINGS r_MAX_MEETINGS) pa_nil))))))
        (pss_one (L2N.ps_raise (W := fun cls d _ H => E cls d H) rfl (L2N.takes_of rfl rfl rfl rfl) (pmk_anyN XB_F XB_q XB.at_ XB.kp (raises_own XB.sub XB.ty) rfl (pa_cons pe_str pa_nil)))) pss_nil), ?_⟩
    refine ⟨_, rfl, o, 1, 60, rfl, _, rfl, ?_⟩
    cases hb : inB 1 60 o with
    | true => exact iteF (k1 hb)
    | false => exact iteT ⟨⟨_, rfl⟩, k2 hb _ (Same.refl H)⟩
end
end Cc

/-! Bookings made, where a number may be missing. -/
namespace Cc
open PySem PySem.Spec PyProof.Rows L2 TL
def spMeetInitO (CB EB : Addr) : Sp := fun vs H Q E => ∃ (x dx : Addr) (r : Str) (o : Option Int), vs = [.ref x, .str r, goalV o] ∧ H x = some (.ins CB dx []) ∧
  (∀ n, o = some n → okMeet r n = true → ∀ lw bs t H', But x H H' → H' x = some (.ins CB dx (bokL (.ref lw) (.ref bs))) → H' lw = some (.lst [.str r, .str (iS n)]) → H' bs = some (.lst [.ref t]) → H' t = some (.tup [.str r, .int n]) → H lw = none → H bs = none → lw ≠ bs → Q .non H') ∧
  (okMeetO r o = false → ∀ H', But x H H' → E (.ref EB) none H')
def serW (r : Str) (n tm mo : Int) : List Str := ([r, iS n, ("times" : Str), iS tm] : List Str) ++ (if mo = 0 then [] else [("more" : Str), iS mo])
def serS (b : Bool) (n mo : Int) (k : Nat) : List Stp := (List.range k).map fun (i : Nat) => Stp.meet b (n + (i : Int) * mo)
def okSer (r : Str) (n tm mo : Int) : Bool := okMeet r n && decide (1 ≤ tm ∧ tm ≤ 60) && (List.range tm.toNat).all fun (i : Nat) => okMeet r (n + (i : Int) * mo)
/-- a booking whose lists weren't there before -/
def BookNew (K : PySem.W.Frag) (C : Addr) (H0 H : Hp) (x : Addr) (ws : List Str) (ss : List Stp) : Prop := ∃ dx lw bs vs, H x = some (.ins C dx (bokL (.ref lw) (.ref bs))) ∧ H lw = some (.lst (ws.map V.str)) ∧ H bs = some (.lst vs) ∧ Paired (StepK K H) vs ss ∧ H0 lw = none ∧ H0 bs = none
theorem BookNew.old {K : PySem.W.Frag} {C : Addr} {H0 H : Hp} {x : Addr} {ws : List Str} {ss : List Stp} (h : BookNew K C H0 H x ws ss) : BookAt K C H x ws ss := let ⟨dx, lw, bs, vs, a, b, c, d, _⟩ := h; ⟨dx, lw, bs, vs, a, b, c, d⟩
theorem BookNew.same {K : PySem.W.Frag} {C : Addr} {H0 H H1 : Hp} {x : Addr} {ws : List Str} {ss : List Stp} (h : BookNew K C H0 H x ws ss) (s : Same H H1) : BookNew K C H0 H1 x ws ss :=
  let ⟨dx, lw, bs, vs, a, b, c, d, e⟩ := h
  ⟨dx, lw, bs, vs, s _ _ a, s _ _ b, s _ _ c, Paired.mapP d fun _ _ z => z.fix (.of s), e⟩
theorem BookNew.less {K : PySem.W.Frag} {C : Addr} {H0 H H1 : Hp} {x : Addr} {ws : List Str} {ss : List Stp} (h : BookNew K C H1 H x ws ss) (n : ∀ y, H1 y = none → H0 y = none) : BookNew K C H0 H x ws ss :=
  let ⟨dx, lw, bs, vs, a, b, c, d, e, f⟩ := h
  ⟨dx, lw, bs, vs, a, b, c, d, n _ e, n _ f⟩
theorem none_make {C : Addr} {H H1 : Hp} {x dx : Addr} (s : Same H H1) (hx : H1 x = none) (hdx : H1 dx = none) (y : Addr) (h : upd (upd H1 dx (.own x)) x (.ins C dx []) y = none) : H y = none := by
  cases e : H y with
  | none => rfl
  | some o =>
    rw [upd_ne (ne_of_none (s _ _ e) hx), upd_ne (ne_of_none (s _ _ e) hdx), s _ _ e] at h
    exact nomatch h
def okSerO (r : Str) (on otm omo : Option Int) : Bool := match on, otm, omo with
  | some n, some tm, some mo => okSer r n tm mo
  | _, _, _ => false
def spSerInitO (K : PySem.W.Frag) (CB EB : Addr) : Sp := fun vs H Q E => ∃ (x dx : Addr) (r : Str) (on otm omo : Option Int), vs = [.ref x, .str r, goalV on, goalV otm, goalV omo] ∧ H x = some (.ins CB dx []) ∧ (∀ v, omo = some v → -1000 < v ∧ v ≤ 1000000000000000000) ∧
  (∀ n tm mo, on = some n → otm = some tm → omo = some mo → okSer r n tm mo = true → ∀ b H', r = roomS b → But x H H' → BookNew K CB H H' x (serW r n tm mo) (serS b n mo tm.toNat) → Q .non H') ∧
  (okSerO r on otm omo = false → ∀ H', But x H H' → E (.ref EB) none H')
theorem okMeet_room {r : Str} {n : Int} (h : okMeet r n = true) : ∃ b, r = roomS b := by
  rcases Bool.or_eq_true_iff.mp (Bool.and_eq_true_iff.mp h).1 with z | z
  · exact ⟨true, of_decide_eq_true z⟩
  · exact ⟨false, of_decide_eq_true z⟩
theorem serS_succ {b : Bool} {n mo : Int} {k : Nat} : serS b n mo (k + 1) = serS b n mo k ++ [Stp.meet b (n + (k : Int) * mo)] := by
  unfold serS
  rw [List.range_succ, List.map_append]
  rfl
theorem fix_updB {H : Hp} {a : Addr} {ys zs : List V} (e : H a = some (.lst ys)) : Fix H (upd H a (.lst zs)) :=
  ⟨fun b us q => by rw [upd_ne fun z => by rw [z, e] at q; exact nomatch q]; exact q, fun b o u q => by rw [upd_ne fun z => by rw [z, e] at q; exact nomatch q]; exact q⟩
theorem paired_snoc {α : Type} {R : V → α → Prop} {v : V} {s : α} {vs : List V} {ss : List α} (g : Paired R vs ss) (h : R v s) : Paired R (vs ++ [v]) (ss ++ [s]) := by
  induction g with
  | nil => exact .cons h .nil
  | cons a b ih => exact .cons a ih
section
variable {P : Program} {w : World} {K : PySem.W.Frag} {mg : Str → Option Value} {base : Heap} {C CB CM EB TU pS gS fW : Addr} {mc : Value}
abbrev s_Meeting___init__ : Stmt := inClass (top 27) 1
abbrev n_Meeting___init__ : List Str := ["self", "room", "need"]
theorem sc_Meeting___init__ : ScopeS n_Meeting___init__ ["self", "room", "need"] (defScope s_Meeting___init__) := ⟨rfl, rfl, rfl, by decide +kernel, rfl, by decide +kernel, by decide +kernel, by decide +kernel⟩
theorem okn_Meeting___init__ {f cc cda D f_word_of fx_check_meeting gB : Addr} {oc kV doc pm ct : Value} {od an : Option Addr} {osl : Array (Option Value)} (lk : K.lookup f = some ⟨oc, od, .func (PySem.W.ksFn "__init__" "Meeting.__init__" (defArgs s_Meeting___init__) (defBody s_Meeting___init__) (defScope s_Meeting___init__) .none kV doc pm an (.ref cda) ct cc), osl⟩) (hcd : PySem.W.codeIn K (.ref cda) "Meeting.__init__" = true) (SF : SupF P K mg D cc cda)
    (D_word_of : Dn P w K mg base 1 "word_of" f_word_of spWordOf) (DX_check_meeting : DnN P w K mg base 2 "check_meeting" fx_check_meeting (spChkMeetO EB)) (GB : FnR P w K mg base CX0 1 gB (spBkInit CB)) (SC : SupC K CB D "__init__" gB) : FnOk P w K mg base (L2N.CX P w) 3 f (PySem.W.ksFn "__init__" "Meeting.__init__" (defArgs s_Meeting___init__) (defBody s_Meeting___init__) (defScope s_Meeting___init__) .none kV doc pm an (.ref cda) ct cc) ["self", "room", "need"] (spMeetInitO CB EB) := by
  refine fn_ofS lk hcd sc_Meeting___init__ SF (fun vs H Q E h => ?_) fun A outer s H vs Q E hr h => ?_
  · obtain ⟨x, dx, r, o, rfl, _⟩ := h
    rfl
  · obtain ⟨x, dx, r, o, rfl, hx, k1, k2⟩ := h
    refine ⟨_, psa_cons (ps_expr (pe_callR (Ez := E) DX_check_meeting.ok (hr.mono (by decide)) rfl DX_check_meeting.at_ DX_check_meeting.kp (L2N.passes_call (L2N.takes_of rfl rfl rfl rfl) fun _ _ _ _ h => h) (pa_cons (pv 1) (pa_cons (pv 2) pa_nil))))
      (psa_super (E2 := E0) SF lk rfl rfl rfl rfl rfl rfl GB (hr.mono (by decide)) pass0 (pa_cons (pe_lst (pa_cons (pv 1) (pa_cons (pe_callR D_word_of.ok (hr.mono (by decide)) rfl D_word_of.at_ D_word_of.kp pass0 (pa_cons (pv 2) pa_nil)) pa_nil))) (pa_cons (pe_lst (pa_cons (pe_tup (pa_cons (pv 1) (pa_cons (pv 2) pa_nil))) pa_nil)) pa_nil))
      (psa_of pss_nil)), ?_⟩
    refine ⟨_, rfl, _, rfl, r, o, rfl, fun okO H1 s1 => ?_, fun bad H1 s1 => k2 bad H1 (But.of s1)⟩
    obtain ⟨n, rfl, ok⟩ := okMeetO_some okO
    have nb : 0 ≤ n ∧ n ≤ 1000000000000000000 := of_decide_eq_true (Bool.and_eq_true_iff.mp ok).2
    refine ⟨x, CB, dx, [], rfl, s1 _ _ hx, SC, fun q hq => ?_⟩
    have s2 := s1.trans (same_upd (o := .met gB x) hq)
    have g2 := upd_same (H := H1) (a := q) (o := .met gB x)
    generalize upd H1 q (.met gB x) = H2 at *
    refine ⟨_, rfl, _, rfl, n, rfl, by omega, nb.2, fun H3 s3 => ⟨by show 2 ≤ sizeLine; decide, fun lw hlw => ⟨_, rfl, _, rfl, by show 2 ≤ sizeLine; decide, fun t ht => ⟨by show 1 ≤ sizeLine; decide, fun bs hbs => ?_⟩⟩⟩⟩
    have s4 := same_upd (o := .lst [.str r, .str (iS n)]) hlw
    have g4 := upd_same (H := H3) (a := lw) (o := .lst [.str r, .str (iS n)])
    generalize upd H3 lw (.lst [.str r, .str (iS n)]) = H4 at *
    have s5 := same_upd (o := .tup [.str r, goalV (some n)]) ht
    have g5 := upd_same (H := H4) (a := t) (o := .tup [.str r, goalV (some n)])
    have e4 := s5 _ _ g4
    generalize upd H4 t (.tup [.str r, goalV (some n)]) = H5 at *
    have s6 := same_upd (o := .lst [.ref t]) hbs
    have g6 := upd_same (H := H5) (a := bs) (o := .lst [.ref t])
    have nlb : lw ≠ bs := ne_of_none e4 hbs
    have e4' := s6 _ _ e4
    have e5' := s6 _ _ g5
    generalize upd H5 bs (.lst [.ref t]) = H6 at *
    have s36 := s3.trans (s4.trans (s5.trans s6))
    have sA : Same H H6 := s2.trans s36
    refine ⟨s36 _ _ g2, x, dx, lw, bs, rfl, sA _ _ hx, fun H7 b7 e7 => ?_⟩
    have nx : ∀ {y o}, H6 y = some o → (∀ C d f, o ≠ .ins C d f) → y ≠ x := fun e n z => by
      rw [z, sA _ _ hx] at e
      exact n _ _ _ (Option.some.inj e).symm
    exact k1 n rfl ok lw bs t H7 ((But.of sA).trans b7) e7 (b7 _ _ (nx e4' fun _ _ _ z => nomatch z) e4') (b7 _ _ (nx g6 fun _ _ _ z => nomatch z) g6) (b7 _ _ (nx e5' fun _ _ _ z => nomatch z) e5') (same_none (s2.trans s3) hlw) (same_none (s2.trans (s3.trans (s4.trans s5))) hbs) nlb
abbrev s_Series___init__ : Stmt := inClass (top 28) 1
abbrev n_Series___init__ : List Str := ["self", "room", "need", "times", "more", "at"]
theorem sc_Series___init__ : ScopeS n_Series___init__ ["self", "room", "need", "times", "more"] (defScope s_Series___init__) := ⟨rfl, rfl, rfl, by decide +kernel, rfl, by decide +kernel, by decide +kernel, by decide +kernel⟩
theorem okn_Series___init__ {f cc cda D f_word_of fx_check_meeting_count fx_check_meeting gM : Addr} {oc kV doc pm ct : Value} {od an : Option Addr} {osl : Array (Option Value)} (lk : K.lookup f = some ⟨oc, od, .func (PySem.W.ksFn "__init__" "Series.__init__" (defArgs s_Series___init__) (defBody s_Series___init__) (defScope s_Series___init__) .none kV doc pm an (.ref cda) ct cc), osl⟩) (hcd : PySem.W.codeIn K (.ref cda) "Series.__init__" = true) (SF : SupF P K mg D cc cda)
    (T : Txt K mg C TU pS gS mc) (D_word_of : Dn P w K mg base 1 "word_of" f_word_of spWordOf) (DX_check_meeting_count : DnN P w K mg base 2 "check_meeting_count" fx_check_meeting_count (spChkCntO EB)) (DX_check_meeting : DnN P w K mg base 2 "check_meeting" fx_check_meeting (spChkMeetO EB)) (XB : Err K mg "InvalidBooking" EB) (GM : FnR P w K mg base (L2N.CX P w) 3 gM (spMeetInitO CB EB)) (SC : SupC K CB D "__init__" gM) (O : BTxt K CB) (DW : Dn P w K mg base 0 "is_whole" fW spIsWholeO) : FnOk P w K mg base (L2N.CX P w) 5 f (PySem.W.ksFn "__init__" "Series.__init__" (defArgs s_Series___init__) (defBody s_Series___init__) (defScope s_Series___init__) .none kV doc pm an (.ref cda) ct cc) ["self", "room", "need", "times", "more"] (spSerInitO K CB EB) := by
  refine fn_ofS lk hcd sc_Series___init__ SF (fun vs H Q E h => ?_) fun A outer s H vs Q E hr h => ?_
  · obtain ⟨x, dx, r, on, otm, omo, rfl, _⟩ := h
    rfl
  · obtain ⟨x, dx, r, on, otm, omo, rfl, hx, mb, k1, k2⟩ := h
    obtain ⟨bmB, Bn, newId, initId, XB_F, XB_q⟩ := XB.ex
    refine ⟨_, psa_super  SF lk rfl rfl rfl rfl rfl rfl GM (hr.mono (by decide)) (L2N.passes_call (L2N.takes_of rfl rfl rfl rfl) fun _ _ _ _ h => h) (pa_cons (pv 1) (pa_cons (pv 2) pa_nil))
      (psa_of (pss_cons (ps_expr (pe_callR (Ez := E) DX_check_meeting_count.ok (hr.mono (by decide)) rfl DX_check_meeting_count.at_ DX_check_meeting_count.kp (L2N.passes_call (L2N.takes_of rfl rfl rfl rfl) fun _ _ _ _ h => h) (pa_cons (pv 3) pa_nil)))
      (pss_cons (ps_if (pt_not (pt_val (pe_callR DW.ok (hr.mono (by decide)) rfl DW.at_ DW.kp pass0 (pa_cons (pv 4) pa_nil))))
        (pss_one (L2N.ps_raise (W := fun cls d _ H => E cls d H) rfl (L2N.takes_of rfl rfl rfl rfl) (pmk_anyN XB_F XB_q XB.at_ XB.kp (raises_own XB.sub XB.ty) rfl (pa_cons pe_str pa_nil)))) pss_nil)
      (pss_cons (ps_expr (pe_bm PySem.F.plainAttrs_list PySem.F.slot_list_extend PySem.F.type_list_extend mt_extend (pe_fld (pv 0) rfl) (pa_cons (pe_lst (pa_cons pe_str (pa_cons (pe_callR D_word_of.ok (hr.mono (by decide)) rfl D_word_of.at_ D_word_of.kp pass0 (pa_cons (pv 3) pa_nil)) pa_nil))) pa_nil)))
      (C8.pss_cut (ps_if (pt_cmpR op_ne (pv 4) pe_int (nomark _))
        (pss_one (ps_expr (pe_bm PySem.F.plainAttrs_list PySem.F.slot_list_extend PySem.F.type_list_extend mt_extend (pe_fld (pv 0) rfl) (pa_cons (pe_lst (pa_cons pe_str (pa_cons (pe_callR D_word_of.ok (hr.mono (by decide)) rfl D_word_of.at_ D_word_of.kp pass0 (pa_cons (pv 4) pa_nil)) pa_nil))) pa_nil)))) pss_nil)
      (pss_one (ps_for (passes_of rfl) rfl (pi_range2 rfl T.b.range (pa_cons pe_int (pa_cons (pv 3) pa_nil))) (pg_name (i := 5) sc_Series___init__.nd rfl (.inl rfl))
        (pss_cons (ps_expr (pe_callR (Ez := E) DX_check_meeting.ok (hr.mono (by decide)) rfl DX_check_meeting.at_ DX_check_meeting.kp (L2N.passes_call (L2N.takes_of rfl rfl rfl rfl) fun _ _ _ _ h => h) (pa_cons (pv 1) (pa_cons (pe_op op_add (pv 2) (pe_op op_mul (pv 5) (pv 4))) pa_nil))))
        (pss_one (ps_expr (pe_bm PySem.F.plainAttrs_list PySem.F.slot_list_append PySem.F.type_list_append mt_append (pe_fld (pv 0) rfl) (pa_cons (pe_tup (pa_cons (pv 1) (pa_cons (pe_op op_add (pv 2) (pe_op op_mul (pv 5) (pv 4))) pa_nil))) pa_nil)))))))))))), ?_⟩
    have bad0 : okMeetO r on = false → okSerO r on otm omo = false := fun z => by
      unfold okSerO
      split
      · unfold okSer
        rw [show okMeet r _ = false from z]
        rfl
      · rfl
    refine ⟨x, CB, dx, [], rfl, hx, SC, fun q hq => ?_⟩
    have s0 := same_upd (o := .met gM x) hq
    have g0 := upd_same (H := H) (a := q) (o := .met gM x)
    generalize upd H q (.met gM x) = H1 at *
    refine ⟨_, rfl, _, rfl, g0, x, dx, r, on, rfl, s0 _ _ hx, fun n en ok lw bs t H2 b2 e2 f1 f2 f3 n1 n2 nlb => ?_, fun bad H2 b2 => k2 (bad0 bad) H2 ((But.of s0).trans b2)⟩
    subst en
    obtain ⟨b, hb⟩ := okMeet_room ok
    have N1 : H lw = none := same_none s0 n1
    have N2 : H bs = none := same_none s0 n2
    have B2 : But x H H2 := (But.of s0).trans b2
    have badT : inB 1 60 otm = false → okSerO r (some n) otm omo = false := fun z => by
      cases otm with
      | none => rfl
      | some tm =>
        cases omo with
        | none => rfl
        | some mo =>
          show okSer r n tm mo = false
          unfold okSer
          rw [show decide (1 ≤ tm ∧ tm ≤ 60) = false from z, Bool.and_false]
          rfl
    refine ⟨_, rfl, otm, rfl, fun hc0 => ?_, fun hc H3 s3 => k2 (badT hc) H3 (B2.trans (.of s3))⟩
    cases otm with
    | none => exact nomatch hc0
    | some tm =>
    have hc : 1 ≤ tm ∧ tm ≤ 60 := of_decide_eq_true hc0
    refine ⟨_, rfl, omo, rfl, _, rfl, ?_⟩
    cases omo with
    | none => exact iteT ⟨⟨_, rfl⟩, k2 rfl H2 B2⟩
    | some mo =>
    refine iteF ?_
    have mb' := mb mo rfl
    have bad3 : ∀ i : Nat, i < tm.toNat → okMeet r (n + (i : Int) * mo) = false → okSerO r (some n) (some tm) (some mo) = false := fun i hi z => by
      show okSer r n tm mo = false
      unfold okSer
      rw [Bool.and_eq_false_iff]
      refine .inr (List.all_eq_false.mpr ⟨i, List.mem_range.mpr hi, by rw [z]; decide⟩)
    refine ⟨_, rfl, x, CB, dx, _, _, rfl, e2, O.cl, O.n1, lkZ, .inl ⟨rfl, _, SqL.of f1⟩, _, rfl, tm, rfl, by omega, by omega, fun H3 s3 => ⟨by show 2 ≤ sizeLine; decide, fun l2 hl2 => ?_⟩⟩
    have s4 := s3.trans (same_upd (o := .lst [.str "times", .str (iS tm)]) hl2)
    have g4 := upd_same (H := H3) (a := l2) (o := .lst [.str "times", .str (iS tm)])
    generalize upd H3 l2 (.lst [.str "times", .str (iS tm)]) = H4 at *
    refine ⟨lw, l2, _, _, rfl, rfl, s4 _ _ f1, g4, by show 4 ≤ sizeLine; decide, ?_⟩
    have nlx : lw ≠ x := fun z => by rw [z, hx] at N1; exact nomatch N1
    have nbx : bs ≠ x := fun z => by rw [z, hx] at N2; exact nomatch N2
    have ntl : t ≠ lw := fun z => by rw [z, f1] at f3; exact nomatch f3
    have ntb : t ≠ bs := fun z => by rw [z, f2] at f3; exact nomatch f3
    have e5 : upd H4 lw (.lst ([.str r, .str (iS n)] ++ [.str "times", .str (iS tm)])) x = some (.ins CB dx (bokL (.ref lw) (.ref bs))) := (upd_ne nlx.symm).trans (s4 _ _ e2)
    have f5 := upd_same (H := H4) (a := lw) (o := .lst ([.str r, .str (iS n)] ++ [.str "times", .str (iS tm)]))
    have h5 : upd H4 lw (.lst ([.str r, .str (iS n)] ++ [.str "times", .str (iS tm)])) bs = some (.lst [.ref t]) := (upd_ne nlb.symm).trans (s4 _ _ f2)
    have i5 : upd H4 lw (.lst ([.str r, .str (iS n)] ++ [.str "times", .str (iS tm)])) t = some (.tup [.str r, .int n]) := (upd_ne ntl).trans (s4 _ _ f3)
    have B5 : But x H (upd H4 lw (.lst ([.str r, .str (iS n)] ++ [.str "times", .str (iS tm)]))) := fun y o ny e => (upd_ne (ne_of_none e N1)).trans (s4 _ _ (B2 _ _ ny e))
    generalize upd H4 lw (.lst ([.str r, .str (iS n)] ++ [.str "times", .str (iS tm)])) = H5 at *
    clear g4 s4 hl2 s3 f1 f2 f3 e2 b2 n1 n2 B2
    refine ⟨fun σ H' => ∃ x5, σ = [some (.ref x), some (.str r), some (.int n), some (.int tm), some (.int mo), x5] ∧ But x H H' ∧ H' x = some (.ins CB dx (bokL (.ref lw) (.ref bs))) ∧ H' lw = some (.lst ((serW r n tm mo).map V.str)) ∧ H' bs = some (.lst [.ref t]) ∧ H' t = some (.tup [.str r, .int n]), ?_, ?_⟩
    · by_cases hm : mo = 0
      · refine ⟨_, rfl, rfl, _, rfl, ifF (by rw [hm]; decide) ⟨none, rfl, B5, e5, ?_, h5, i5⟩⟩
        rw [f5]
        unfold serW
        rw [if_pos hm]
        rfl
      · refine ⟨_, rfl, rfl, _, rfl, ifT (by simp [hm, goalV]) ?_⟩
        refine ⟨_, rfl, x, CB, dx, _, _, rfl, e5, O.cl, O.n1, lkZ, .inl ⟨rfl, _, SqL.of f5⟩, _, rfl, mo, rfl, by omega, by omega, fun H6 s6 => ⟨by show 2 ≤ sizeLine; decide, fun l3 hl3 => ?_⟩⟩
        have s7 := s6.trans (same_upd (o := .lst [.str "more", .str (iS mo)]) hl3)
        have g7 := upd_same (H := H6) (a := l3) (o := .lst [.str "more", .str (iS mo)])
        generalize upd H6 l3 (.lst [.str "more", .str (iS mo)]) = H7 at *
        refine ⟨lw, l3, _, _, rfl, rfl, s7 _ _ f5, g7, by show 6 ≤ sizeLine; decide, ?_⟩
        refine ⟨none, rfl, fun y o ny e => (upd_ne (ne_of_none e N1)).trans (s7 _ _ (B5 _ _ ny e)), (upd_ne nlx.symm).trans (s7 _ _ e5), ?_, (upd_ne nlb.symm).trans (s7 _ _ h5), (upd_ne ntl).trans (s7 _ _ i5)⟩
        rw [upd_same]
        unfold serW
        rw [if_neg hm]
        rfl
    · rintro σ' H' ⟨x5, rfl, B, e, fl, fb, ft⟩
      refine ⟨.int tm, rfl, 1, tm, rfl, ⟨by omega, by omega, by omega, by omega⟩, for_range (lo := 1) (n := (tm - 1).toNat)
        (fun i σ' H' => ∃ x5 vs, σ' = [some (.ref x), some (.str r), some (.int n), some (.int tm), some (.int mo), x5] ∧ But x H H' ∧ H' x = some (.ins CB dx (bokL (.ref lw) (.ref bs))) ∧ H' lw = some (.lst ((serW r n tm mo).map V.str)) ∧ H' bs = some (.lst vs) ∧ Paired (StepK K H') vs (serS b n mo (i + 1)) ∧ ∀ j < i + 1, okMeet r (n + (j : Int) * mo) = true)
        ⟨x5, _, rfl, B, e, fl, fb, ?_, ?_⟩ (fun i σ' H' hi hp => ?_) (fun σ' H' hp => ?_)⟩
      · refine .cons ⟨t, rfl, ?_⟩ .nil
        rw [hb] at ft
        have z : n + ((0 : Nat) : Int) * mo = n := by simp
        show TupW K H' t (stpV (.meet b (n + ((0 : Nat) : Int) * mo)))
        rw [z]
        exact TupW.of ft
      · intro j hj
        have : j = 0 := by omega
        subst this
        simpa using ok
      · obtain ⟨x5', vs, rfl, B', e', fl', fb', pr, all⟩ := hp
        have el : vs.length = i + 1 := by
          rw [Paired.length pr]
          unfold serS
          simp
        have hi2 : i < 59 := by omega
        refine ⟨_, rfl, _, rfl, _, rfl, _, rfl, ?_⟩
        have ci : ((i + 1 : Nat) : Int) = 1 + (i : Int) := by omega
        refine ⟨_, _, rfl, rfl, .inl ⟨by omega, by omega⟩, _, _, rfl, rfl, r, n + (1 + (i : Int)) * mo, rfl, fun ok' H6 s6 => ?_, fun bad H6 s6 => k2 (bad3 (i + 1) (by omega) (by rw [ci]; exact bad)) H6 (B'.trans (.of s6))⟩
        refine ⟨_, rfl, x, CB, dx, _, _, rfl, s6 _ _ e', O.cl, O.n2, lkS (by decide) lkZ, .inl ⟨rfl, _, SqL.of (s6 _ _ fb')⟩, ?_⟩
        refine ⟨_, rfl, _, rfl, _, rfl, _, rfl, _, _, rfl, rfl, .inl ⟨by omega, by omega⟩, _, _, rfl, rfl, by show 2 ≤ sizeLine; decide, fun t2 ht2 => ?_⟩
        have s7 := s6.trans (same_upd (o := .tup [.str r, .int (n + (1 + (i : Int)) * mo)]) ht2)
        have g7 := upd_same (H := H6) (a := t2) (o := .tup [.str r, .int (n + (1 + (i : Int)) * mo)])
        generalize upd H6 t2 (.tup [.str r, .int (n + (1 + (i : Int)) * mo)]) = H7 at *
        have fx : Fix H7 (upd H7 bs (.lst (vs ++ [.ref t2]))) := fix_updB (s7 _ _ fb')
        refine ⟨bs, vs, _, rfl, rfl, s7 _ _ fb', by rw [el]; exact Nat.lt_of_lt_of_le (by omega : i + 1 < 100) (by decide), _, _, rfl, fun y o ny ey => (upd_ne (ne_of_none ey N2)).trans (s7 _ _ (B' _ _ ny ey)), (upd_ne nbx.symm).trans (s7 _ _ e'), (upd_ne nlb).trans (s7 _ _ fl'), upd_same, ?_, ?_⟩
        · rw [serS_succ]
          refine paired_snoc (Paired.mapP pr fun _ _ z => (z.fix (.of s7)).fix fx) ⟨t2, rfl, ?_⟩
          rw [hb] at g7
          rw [ci]
          exact (TupW.of (K := K) g7).fix fx
        · intro j hj
          by_cases z : j = i + 1
          · rw [z, ci]
            exact ok'
          · exact all j (by omega)
      · obtain ⟨x5', vs, rfl, B', e', fl', fb', pr, all⟩ := hp
        have et : (tm - 1).toNat + 1 = tm.toNat := by omega
        rw [et] at pr all
        refine k1 n tm mo rfl rfl rfl ?_ b H' hb B' ⟨dx, lw, bs, vs, e', fl', fb', pr, N1, N2⟩
        unfold okSer
        rw [ok, decide_eq_true hc, Bool.true_and, Bool.true_and, List.all_eq_true]
        exact fun j hj => all j (List.mem_range.mp hj)
end
end Cc

/-! Alternations and turnings made. -/
namespace Cc
open PySem PySem.Spec PyProof.Rows L2 TL
def altW (ns : List Int) : List Str := "alternate" :: ns.map iS
def altN (ns : List Int) (k : Nat) : List Stp := (List.range k).map fun (i : Nat) => Stp.meet (decide (i % 2 = 0)) (ns.getD i 0)
def altS (ns : List Int) : List Stp := altN ns ns.length
abbrev fitN (n : Int) : Bool := decide (0 ≤ n ∧ n ≤ 1000000000000000000)
def okAlt (ns : List Int) : Bool := decide (1 ≤ ns.length ∧ ns.length ≤ 60) && ns.all fitN
theorem altN_succ {ns : List Int} {k : Nat} : altN ns (k + 1) = altN ns k ++ [Stp.meet (decide (k % 2 = 0)) (ns.getD k 0)] := by
  unfold altN
  rw [List.range_succ, List.map_append]
  rfl
theorem okMeet_roomS {b : Bool} {n : Int} : okMeet (roomS b) n = fitN n := by
  cases b <;> simp [okMeet, roomS, fitN]
theorem if_room {c d : Bool} {Q : VK} {σ : L2.St} {H : Hp} (e : c = d) (h : Q (.str (roomS d)) H) : if c = true then tC (.str "red") σ H Q else tC (.str "blue") σ H Q := by
  subst e
  cases c <;> exact h
def allN : List (Option Int) → List Int
  | [] => []
  | o :: r => o.getD 0 :: allN r
theorem allN_map (os : List (Option Int)) : allN os = os.map (·.getD 0) := by
  induction os with
  | nil => rfl
  | cons a r ih => rw [allN, ih]; rfl
def okAltO (os : List (Option Int)) : Bool := decide (1 ≤ os.length ∧ os.length ≤ 60) && os.all (inB 0 1000000000000000000)
def spAltInitO (K : PySem.W.Frag) (CB EB : Addr) : Sp := fun vs H Q E => ∃ (x dx p : Addr) (os : List (Option Int)), vs = [.ref x, .ref p] ∧ H x = some (.ins CB dx []) ∧ H p = some (.tup (os.map goalV)) ∧ os.length ≤ 1000 ∧
  (okAltO os = true → ∀ H', But x H H' → BookNew K CB H H' x (altW (allN os)) (altS (allN os)) → Q .non H') ∧
  (okAltO os = false → ∀ H', But x H H' → E (.ref EB) none H')
def spTurnInitN (K : PySem.W.Frag) (CB : Addr) : Sp := fun vs H Q E => ∃ (x dx : Addr), vs = [.ref x] ∧ H x = some (.ins CB dx []) ∧ (∀ H', But x H H' → BookNew K CB H H' x ["turn"] [.turn] → Q .non H')
section
variable {P : Program} {w : World} {K : PySem.W.Frag} {mg : Str → Option Value} {base : Heap} {C CB CM EB TU pS gS : Addr} {mc : Value}
abbrev s_Turning___init__ : Stmt := inClass (top 30) 1
abbrev n_Turning___init__ : List Str := ["self"]
theorem sc_Turning___init__ : ScopeS n_Turning___init__ ["self"] (defScope s_Turning___init__) := ⟨rfl, rfl, rfl, by decide +kernel, rfl, by decide +kernel, by decide +kernel, by decide +kernel⟩
theorem okn_Turning___init__ {f cc cda D gB : Addr} {oc kV doc pm ct : Value} {od an : Option Addr} {osl : Array (Option Value)} (lk : K.lookup f = some ⟨oc, od, .func (PySem.W.ksFn "__init__" "Turning.__init__" (defArgs s_Turning___init__) (defBody s_Turning___init__) (defScope s_Turning___init__) .none kV doc pm an (.ref cda) ct cc), osl⟩) (hcd : PySem.W.codeIn K (.ref cda) "Turning.__init__" = true) (SF : SupF P K mg D cc cda)
    (T : Txt K mg C TU pS gS mc) (GB : FnR P w K mg base CX0 1 gB (spBkInit CB)) (SC : SupC K CB D "__init__" gB) : FnOk P w K mg base (L2N.CX P w) 3 f (PySem.W.ksFn "__init__" "Turning.__init__" (defArgs s_Turning___init__) (defBody s_Turning___init__) (defScope s_Turning___init__) .none kV doc pm an (.ref cda) ct cc) ["self"] (spTurnInitN K CB) := by
  refine fn_ofS lk hcd sc_Turning___init__ SF (fun vs H Q E h => ?_) fun A outer s H vs Q E hr h => ?_
  · obtain ⟨x, dx, rfl, _⟩ := h
    rfl
  · obtain ⟨x, dx, rfl, hx, k1⟩ := h
    refine ⟨_, psa_super (E2 := E0) SF lk rfl rfl rfl rfl rfl rfl GB (hr.mono (by decide)) pass0 (pa_cons (pe_lst (pa_cons pe_str pa_nil)) (pa_cons (pe_lst (pa_cons (pe_glob (v := .ref TU) rfl T.gT rfl) pa_nil)) pa_nil))
      (psa_of pss_nil), ?_⟩
    refine ⟨x, CB, dx, [], rfl, hx, SC, fun q hq => ⟨by show 1 ≤ sizeLine; decide, fun lw hlw => ⟨by show 1 ≤ sizeLine; decide, fun bs hbs => ?_⟩⟩⟩
    have s1 := same_upd (o := .met gB x) hq
    have g1 := upd_same (H := H) (a := q) (o := .met gB x)
    generalize upd H q (.met gB x) = H1 at *
    have s2 := same_upd (o := .lst [.str "turn"]) hlw
    have g2 := upd_same (H := H1) (a := lw) (o := .lst [.str "turn"])
    generalize upd H1 lw (.lst [.str "turn"]) = H2 at *
    have s3 := same_upd (o := .lst [.ref TU]) hbs
    have g3 := upd_same (H := H2) (a := bs) (o := .lst [.ref TU])
    have e2 := s3 _ _ g2
    generalize upd H2 bs (.lst [.ref TU]) = H3 at *
    have sA : Same H H3 := s1.trans (s2.trans s3)
    refine ⟨(s2.trans s3) _ _ g1, x, dx, lw, bs, rfl, sA _ _ hx, fun H4 b4 e4 => ?_⟩
    have nx : ∀ {y o}, H3 y = some o → (∀ C d f, o ≠ .ins C d f) → y ≠ x := fun e n z => by
      rw [z, sA _ _ hx] at e
      exact n _ _ _ (Option.some.inj e).symm
    exact k1 H4 ((But.of sA).trans b4) ⟨dx, lw, bs, _, e4, b4 _ _ (nx e2 fun _ _ _ z => nomatch z) e2, b4 _ _ (nx g3 fun _ _ _ z => nomatch z) g3, .cons ⟨TU, rfl, fun H' _ => T.tT H'⟩ .nil, same_none s1 hlw, same_none (s1.trans s2) hbs⟩
abbrev s_Alternation___init__ : Stmt := inClass (top 29) 1
abbrev n_Alternation___init__ : List Str := ["self", "needs", "words", "steps", "at", "need", "room"]
theorem sc_Alternation___init__ : ScopeS n_Alternation___init__ ["self", "needs"] (defScope s_Alternation___init__) := ⟨rfl, rfl, rfl, by decide +kernel, rfl, by decide +kernel, by decide +kernel, by decide +kernel⟩
theorem okn_Alternation___init__ {f cc cda D f_word_of fx_check_meeting_count fx_check_meeting gB : Addr} {oc kV doc pm ct : Value} {od an : Option Addr} {osl : Array (Option Value)} (lk : K.lookup f = some ⟨oc, od, .func (PySem.W.ksFn "__init__" "Alternation.__init__" (defArgs s_Alternation___init__) (defBody s_Alternation___init__) (defScope s_Alternation___init__) .none kV doc pm an (.ref cda) ct cc), osl⟩) (hcd : PySem.W.codeIn K (.ref cda) "Alternation.__init__" = true) (SF : SupF P K mg D cc cda)
    (T : Txt K mg C TU pS gS mc) (D_word_of : Dn P w K mg base 1 "word_of" f_word_of spWordOf) (DX_check_meeting_count : DnN P w K mg base 2 "check_meeting_count" fx_check_meeting_count (spChkCntO EB)) (DX_check_meeting : DnN P w K mg base 2 "check_meeting" fx_check_meeting (spChkMeetO EB)) (GB : FnR P w K mg base CX0 1 gB (spBkInit CB)) (SC : SupC K CB D "__init__" gB) : FnR P w K mg base (L2N.CX P w) 5 f (fun vs H Q E => ∃ ws rest, vs = ws ++ rest ∧ ws.length = 1 ∧ rest.length ≤ sizeLine ∧ ∀ p, H p = Option.none → (spAltInitO K CB EB) (ws ++ [V.ref p]) (upd H p (.tup rest)) Q E) := by
  refine fn_starS (ps := ["self"]) (pv := "needs") (sp := (spAltInitO K CB EB)) (k := 4) lk hcd sc_Alternation___init__ SF cxUpN (StX.bind_star1 (B := fun us => bindArgs _ ⟨us, []⟩) (fun _ => rfl) (fun _ _ _ => rfl)) fun A outer s H vs Q E hr h => ?_
  · obtain ⟨x, dx, p, os, rfl, hx, hp, hz, k1, k2⟩ := h
    refine ⟨_, psa_cons (ps_expr (pe_callR (Ez := E) DX_check_meeting_count.ok (hr.mono (by decide)) rfl DX_check_meeting_count.at_ DX_check_meeting_count.kp (L2N.passes_call (L2N.takes_of rfl rfl rfl rfl) fun _ _ _ _ h => h) (pa_cons (pe_callB call_len (by rfl) T.b.len PySem.boot_len (pa_cons (pv 1) pa_nil)) pa_nil)))
      (psa_cons (ps_par (i := 2) (j := 3) rfl sc_Alternation___init__.nd rfl rfl (by decide) rfl rfl (pa_cons (pe_lst (pa_cons pe_str pa_nil)) (pa_cons (pe_lst pa_nil) pa_nil)) (by rfl))
      (psa_cons (ps_for (passes_of rfl) rfl (pi_enumT (by rfl) T.b.enumerate (pa_cons (pv 1) pa_nil)) (pg_tup rfl (pgs_cons (pg_name (i := 4) sc_Alternation___init__.nd rfl (.inl rfl)) (pgs_cons (pg_name (i := 5) sc_Alternation___init__.nd rfl (.inl rfl)) pgs_nil)))
        (pss_cons (ps_set (i := 6) sc_Alternation___init__.nd rfl (.inl rfl) (pe_ifExp (pt_cmpR op_eq (pe_op op_mod (pv 4) pe_int) pe_int (nomark _)) pe_str pe_str))
        (pss_cons (ps_expr (pe_callR (Ez := E) DX_check_meeting.ok (hr.mono (by decide)) rfl DX_check_meeting.at_ DX_check_meeting.kp (L2N.passes_call (L2N.takes_of rfl rfl rfl rfl) fun _ _ _ _ h => h) (pa_cons (pv 6) (pa_cons (pv 5) pa_nil))))
        (pss_cons (ps_expr (pe_bm PySem.F.plainAttrs_list PySem.F.slot_list_append PySem.F.type_list_append mt_append (pv 2) (pa_cons (pe_callR D_word_of.ok (hr.mono (by decide)) rfl D_word_of.at_ D_word_of.kp pass0 (pa_cons (pv 5) pa_nil)) pa_nil)))
        (pss_one (ps_expr (pe_bm PySem.F.plainAttrs_list PySem.F.slot_list_append PySem.F.type_list_append mt_append (pv 3) (pa_cons (pe_tup (pa_cons (pv 6) (pa_cons (pv 5) pa_nil))) pa_nil))))))))
      (psa_super (E2 := E0) SF lk rfl rfl rfl rfl rfl rfl GB (hr.mono (by decide)) pass0 (pa_cons (pv 2) (pa_cons (pv 3) pa_nil))
      (psa_of pss_nil)))), ?_⟩
    have hm : (os.map goalV).length = os.length := List.length_map ..
    have bad1 : ¬ (1 ≤ os.length ∧ os.length ≤ 60) → okAltO os = false := fun z => by unfold okAltO; rw [decide_eq_false z]; rfl
    have bad2 : ∀ (i : Nat) (n : Option Int), os[i]? = some n → inB 0 1000000000000000000 n = false → okAltO os = false := fun i n hi z => by
      unfold okAltO
      rw [Bool.and_eq_false_iff]
      exact .inr (List.all_eq_false.mpr ⟨n, List.mem_of_getElem? hi, by rw [z]; decide⟩)
    have okR : ∀ (b : Bool) (o : Option Int), okMeetO (roomS b) o = inB 0 1000000000000000000 o := fun b o => by
      cases b <;> simp [okMeetO, roomS]
    refine ⟨_, rfl, _, (os.map goalV).length, rfl, .inr ⟨_, SqT.of hp, rfl⟩, some (((os.map goalV).length : Nat) : Int), rfl, fun hc => ?_, fun hc H1 s1 => k2 (bad1 (by rw [hm] at hc; have := of_decide_eq_false hc; omega)) H1 (.of s1)⟩
    rw [hm] at hc
    have hc' : 1 ≤ os.length ∧ os.length ≤ 60 := by have := of_decide_eq_true hc; omega
    have la : (allN os).length = os.length := by rw [allN_map, List.length_map]
    refine ⟨by show 1 ≤ sizeLine; decide, fun lw hlw => ⟨by show 0 ≤ sizeLine; decide, fun bs hbs => ⟨_, _, rfl, ?_⟩⟩⟩
    have s1 := same_upd (o := .lst [.str "alternate"]) hlw
    have g1 := upd_same (H := H) (a := lw) (o := .lst [.str "alternate"])
    generalize upd H lw (.lst [.str "alternate"]) = H1 at *
    have s2 := same_upd (o := .lst []) hbs
    have g2 := upd_same (H := H1) (a := bs) (o := .lst [])
    have nlb : lw ≠ bs := ne_of_none g1 hbs
    have N2 : H bs = none := same_none s1 hbs
    have e2 := s2 _ _ g1
    generalize upd H1 bs (.lst []) = H2 at *
    have s12 : Same H H2 := s1.trans s2
    refine ⟨_, rfl, p, os.map goalV, rfl, SqT.of (s12 _ _ hp), ?_⟩
    refine for_it (walk_enumT (xs := os.map goalV)) (fun i σ H' => ∃ a b c vs, σ = [some (.ref x), some (.ref p), some (.ref lw), some (.ref bs), a, b, c] ∧ Same H H' ∧ H' lw = some (.lst ((altW ((allN os).take i)).map V.str)) ∧ H' bs = some (.lst vs) ∧ Paired (StepK K H') vs (altN (allN os) i) ∧ ∀ j n, j < i → os[j]? = some n → inB 0 1000000000000000000 n = true)
      ⟨none, none, none, [], rfl, s12, e2, g2, .nil, fun j n hj => absurd hj (by omega)⟩ (fun i σ H' _ ⟨_, _, _, _, _, s, _⟩ => SqT.of (s _ _ hp)) ?_ ?_
    · rintro i v σ H3 H4 hi ⟨a, b, c, vs, rfl, s3, el, eb, pr, all⟩ ⟨q, y1, y2, rfl, n1, rfl, z1, z2⟩
      cases z1
      replace z2 : (os.map goalV)[i]? = some y2 := z2
      rw [List.getElem?_map] at z2
      obtain ⟨o, ho, rfl⟩ : ∃ o, os[i]? = some o ∧ y2 = goalV o := by
        cases ez : os[i]? with
        | none =>
          rw [ez] at z2
          exact nomatch z2
        | some a =>
          rw [ez] at z2
          exact ⟨a, rfl, (Option.some.inj z2).symm⟩
      have hin : i < os.length := (List.getElem?_eq_some_iff.mp ho).1
      have s4 : Same H3 (upd H3 q (.tup [.int (i : Nat), goalV o])) := same_upd n1
      refine ⟨q, _, rfl, SqT.of upd_same, rfl, _, _, rfl, _, _, rfl, rfl, ?_⟩
      generalize upd H3 q (.tup [.int (i : Nat), goalV o]) = H4 at *
      refine ⟨_, rfl, _, _, rfl, rfl, (by show (0 : Int) < 2; decide), rfl, _, rfl, ?_⟩
      refine if_room (d := decide (i % 2 = 0)) ?_ ?_
      · have hz : ∀ z : Int, decide (V.int z = V.int 0) = decide (z = 0) := fun z => by
          rw [decide_eq_decide]
          exact ⟨fun e => by injection e, fun e => by rw [e]⟩
        rw [hz, decide_eq_decide]
        omega
      refine ⟨_, rfl, _, rfl, roomS (decide (i % 2 = 0)), o, rfl, fun ok H5 s5 => ?_, fun bad H5 s5 => k2 (bad2 i o ho (by rw [← okR]; exact bad)) H5 (.of (s3.trans (s4.trans s5)))⟩
      rw [okR] at ok
      cases o with
      | none => exact nomatch ok
      | some n =>
      have hn : (allN os)[i]? = some n := by rw [allN_map, List.getElem?_map, ho]; rfl
      have fn : 0 ≤ n ∧ n ≤ 1000000000000000000 := of_decide_eq_true ok
      have s35 := s4.trans s5
      refine ⟨_, rfl, .inl ⟨rfl, _, SqL.of (s35 _ _ el)⟩, _, rfl, n, rfl, by omega, fn.2, fun H6 s6 => ?_⟩
      have s36 := s35.trans s6
      have ew : (altW ((allN os).take i)).map V.str ++ [V.str (iS n)] = (altW ((allN os).take (i + 1))).map V.str := by
        rw [List.take_add_one, hn]
        unfold altW
        simp
      have lw1 : ((altW ((allN os).take i)).map V.str).length < sizeLine := by
        unfold altW
        rw [List.length_map, List.length_cons, List.length_map, List.length_take]
        exact Nat.lt_of_lt_of_le (by omega : _ < 100) (by decide)
      refine ⟨lw, _, _, rfl, rfl, s36 _ _ el, lw1, ?_⟩
      rw [ew]
      have e6 := s36 _ _ eb
      have f6 := s36 _ _ el
      have fx : Fix H6 (upd H6 lw (.lst ((altW ((allN os).take (i + 1))).map V.str))) := fix_updB f6
      have s7 : Same H (upd H6 lw (.lst ((altW ((allN os).take (i + 1))).map V.str))) := fun y o e => (upd_ne (ne_of_none e hlw)).trans (s36 _ _ (s3 _ _ e))
      have g7 := upd_same (H := H6) (a := lw) (o := .lst ((altW ((allN os).take (i + 1))).map V.str))
      have e7 : upd H6 lw (.lst ((altW ((allN os).take (i + 1))).map V.str)) bs = some (.lst vs) := (upd_ne nlb.symm).trans e6
      generalize upd H6 lw (.lst ((altW ((allN os).take (i + 1))).map V.str)) = H7 at *
      refine ⟨_, rfl, .inl ⟨rfl, _, SqL.of e7⟩, _, rfl, _, rfl, by show 2 ≤ sizeLine; decide, fun t ht => ?_⟩
      have s8 := same_upd (o := .tup [.str (roomS (decide (i % 2 = 0))), goalV (some n)]) ht
      have g8 := upd_same (H := H7) (a := t) (o := .tup [.str (roomS (decide (i % 2 = 0))), goalV (some n)])
      generalize upd H7 t (.tup [.str (roomS (decide (i % 2 = 0))), goalV (some n)]) = H8 at *
      have lv : vs.length < sizeLine := by
        have : vs.length = i := by
          rw [Paired.length pr]
          simp [altN]
        exact Nat.lt_of_lt_of_le (by omega : _ < 100) (by decide)
      have fy : Fix H8 (upd H8 bs (.lst (vs ++ [.ref t]))) := fix_updB (s8 _ _ e7)
      refine ⟨bs, vs, _, rfl, rfl, s8 _ _ e7, lv, _, _, _, _, rfl, fun y o e => (upd_ne (ne_of_none e N2)).trans (s8 _ _ (s7 _ _ e)), (upd_ne nlb).trans (s8 _ _ g7), upd_same, ?_, ?_⟩
      · rw [altN_succ]
        refine paired_snoc (Paired.mapP pr fun _ _ z => z.fix ((Fix.of s36).trans (fx.trans ((Fix.of s8).trans fy)))) ⟨t, rfl, ?_⟩
        rw [List.getD_eq_getElem?_getD, hn]
        exact (TupW.of (K := K) g8).fix fy
      · intro j m hj hm
        by_cases z : j = i
        · rw [z, ho] at hm
          cases hm
          exact ok
        · exact all j m (by omega) hm
    · rintro σ H' ⟨a, b, c, vs, rfl, s3, el, eb, pr, all⟩
      rw [hm] at el pr all
      rw [← la, List.take_length] at el
      rw [← la] at pr
      refine ⟨x, CB, dx, [], rfl, s3 _ _ hx, SC, fun q hq => ?_⟩
      have s4 := same_upd (o := .met gB x) hq
      have g4 := upd_same (H := H') (a := q) (o := .met gB x)
      generalize upd H' q (.met gB x) = H4 at *
      refine ⟨_, rfl, _, rfl, g4, x, dx, lw, bs, rfl, s4 _ _ (s3 _ _ hx), fun H5 b5 e5 => ?_⟩
      have nlx : lw ≠ x := fun z => by rw [z, hx] at hlw; exact nomatch hlw
      have nbx : bs ≠ x := fun z => by rw [z, hx] at N2; exact nomatch N2
      have f5 : Fix H4 H5 := ⟨fun b us e => b5 _ _ (fun z => by rw [z, s4 _ _ (s3 _ _ hx)] at e; exact nomatch e) e, fun b o u e => b5 _ _ (fun z => by rw [z, s4 _ _ (s3 _ _ hx)] at e; exact nomatch e) e⟩
      refine k1 ?_ H5 ((But.of (s3.trans s4)).trans b5) ⟨dx, lw, bs, vs, e5, b5 _ _ nlx (s4 _ _ el), b5 _ _ nbx (s4 _ _ eb), Paired.mapP pr fun _ _ z => (z.fix (.of s4)).fix f5, hlw, N2⟩
      unfold okAltO
      rw [decide_eq_true hc', Bool.true_and, List.all_eq_true]
      intro n hn
      obtain ⟨j, hj⟩ := List.getElem?_of_mem hn
      exact all j n (List.getElem?_eq_some_iff.mp hj).1 hj
end
end Cc

/-! Bookings as data. -/
namespace Cc
open PySem PySem.Spec PyProof.Rows L2 TL
structure Kds where
  (m s a t : Addr)
def BookOf (K : PySem.W.Frag) (D : Kds) (H : Hp) (x : Addr) (ws : List Str) (ss : List Stp) : Prop := BookAt K D.m H x ws ss ∨ BookAt K D.s H x ws ss ∨ BookAt K D.a H x ws ss ∨ BookAt K D.t H x ws ss
theorem BookOf.same {K : PySem.W.Frag} {D : Kds} {H H1 : Hp} {x : Addr} {ws : List Str} {ss : List Stp} (h : BookOf K D H x ws ss) (s : Same H H1) : BookOf K D H1 x ws ss := h.imp (·.same s) (·.imp (·.same s) (·.imp (·.same s) (·.same s)))
inductive BkD
  | turn
  | meet (b : Bool) (n : Int)
  | alt (ns : List Int)
  | ser (b : Bool) (n tm mo : Int)
def bWords : BkD → List Str
  | .turn => ["turn"]
  | .meet b n => [roomS b, iS n]
  | .alt ns => altW ns
  | .ser b n tm mo => serW (roomS b) n tm mo
def bSteps : BkD → List Stp
  | .turn => [.turn]
  | .meet b n => [.meet b n]
  | .alt ns => altS ns
  | .ser b n tm mo => serS b n mo tm.toNat
def okB : BkD → Prop
  | .turn => True
  | .meet _ n => 0 ≤ n ∧ n ≤ 1000000000000000000
  | .alt ns => 1 ≤ ns.length ∧ ns.length ≤ 5 ∧ ∀ n ∈ ns, 0 ≤ n ∧ n < 30
  | .ser b n tm mo => (0 ≤ n ∧ n ≤ 1000000000000000000) ∧ (1 ≤ tm ∧ tm ≤ 60) ∧ (-4 ≤ mo ∧ mo ≤ 4) ∧ okSer (roomS b) n tm mo = true
def clsB (D : Kds) : BkD → Addr
  | .turn => D.t
  | .meet _ _ => D.m
  | .alt _ => D.a
  | .ser _ _ _ _ => D.s
theorem BookOf.of {K : PySem.W.Frag} {D : Kds} {H : Hp} {x : Addr} {k : BkD} (h : BookAt K (clsB D k) H x (bWords k) (bSteps k)) : BookOf K D H x (bWords k) (bSteps k) := by
  cases k with
  | turn => exact .inr (.inr (.inr h))
  | meet b n => exact .inl h
  | alt ns => exact .inr (.inr (.inl h))
  | ser b n tm mo => exact .inr (.inl h)
/-- the text of an integer is read as it -/
theorem int_iS {n : Int} (h : -4 ≤ n ∧ n ≤ 1000000000000000000) : PySem.intText? (iS n) = some n := by
  by_cases c : 0 ≤ n
  · obtain ⟨m, rfl⟩ := Int.eq_ofNat_of_zero_le c
    exact int_num (Nat.le_trans (numL_le20 (by omega)) (by decide))
  · have : n = -4 ∨ n = -3 ∨ n = -2 ∨ n = -1 := by omega
    rcases this with rfl | rfl | rfl | rfl <;> decide +kernel
theorem iS_len {n : Int} (h : -4 ≤ n ∧ n ≤ 1000000000000000000) : (iS n).length ≤ 640 := by
  by_cases c : 0 ≤ n
  · obtain ⟨m, rfl⟩ := Int.eq_ofNat_of_zero_le c
    have e : (iS (m : Int)).length = (numL m).length := by rw [len_tl, tl_num]
    rw [e]
    exact Nat.le_trans (numL_le20 (by omega)) (by decide)
  · have : n = -4 ∨ n = -3 ∨ n = -2 ∨ n = -1 := by omega
    rcases this with rfl | rfl | rfl | rfl <;> decide +kernel
theorem n_ne {a b : Int} (h : a ≠ b) : decide (V.int a = V.int b) = false := decide_eq_false fun z => h (by injection z)
theorem roomS_inj {a b : Bool} (h : roomS a = roomS b) : a = b := by
  cases a <;> cases b <;> first | rfl | exact absurd h (by decide +kernel)
theorem cut_rest {x : V} {xs : List V} : cutV (x :: xs) (some 1) none = xs := by
  unfold cutV
  rw [HT.sIx_none, show (1 : Int) = ((1 : Nat) : Int) from rfl, HT.sIx_nat, List.length_cons, Nat.min_eq_left (by omega)]
  show xs.take (xs.length + 1 - 1) = xs
  rw [Nat.add_sub_cancel, List.take_length]
end Cc

/-! A booking drawn: its words and its steps. -/
namespace Cc
open PySem PySem.Spec PyProof.Rows L2 TL
def spDraw (K : PySem.W.Frag) : Sp := fun vs H Q _ => ∃ (h l : Addr), vs = [.ref h] ∧ NextAt H h l ∧ ∀ (k : BkD) (p a b : Addr) (us : List V) (H' : Hp), okB k → NextAt H' h l → But2 h l H H' → H' p = some (.tup [.ref a, .ref b]) → H' a = some (.lst ((bWords k).map V.str)) → H' b = some (.lst us) → StepsV K H' us (bSteps k) →
  H p = none → H a = none → H b = none → a ≠ b → Q (.ref p) H'
theorem NextAt.notH {H : Hp} {h l p : Addr} (n : NextAt H h l) (hp : H p = none) : p ≠ h := fun z => by
  obtain ⟨xs, e⟩ := n.h1
  rw [← z, hp] at e
  exact nomatch e
theorem NextAt.notL {H : Hp} {h l p : Addr} (n : NextAt H h l) (hp : H p = none) : p ≠ l := fun z => by
  obtain ⟨xs, e⟩ := n.l1
  rw [← z, hp] at e
  exact nomatch e
theorem NextAt.updX {H : Hp} {h l p : Addr} {o : HO} (n : NextAt H h l) (nh : p ≠ h) (nl : p ≠ l) : NextAt (upd H p o) h l := by
  obtain ⟨m, k, ns, a, b, c, d⟩ := n
  exact ⟨m, k, ns, by rw [upd_ne nh.symm]; exact a, by rw [upd_ne nl.symm]; exact b, c, d⟩
theorem room_at {r : Int} (h : r = 0 ∨ r = 1) : atI [V.str "red", V.str "blue"] r = some (V.str (roomS (decide (r = 0)))) := by
  rcases h with rfl | rfl <;> rfl
theorem two_at {r x y : Int} (h : r = 0 ∨ r = 1) : atI [V.int x, V.int y] r = some (V.int (if r = 0 then x else y)) := by
  rcases h with rfl | rfl <;> rfl
theorem log_ok {i : Int} (h : -1000 < i ∧ i ≤ 1000000000000000000) : i.natAbs.log2 < 1920 := by
  have : i.natAbs < 2 ^ 100 := by omega
  by_cases z : i.natAbs = 0
  · rw [z]
    decide
  · exact Nat.lt_of_lt_of_le ((Nat.log2_lt z).mpr this) (by decide)
theorem ser_fit {b : Bool} {n tm mo : Int} (hn : 0 ≤ n ∧ n ≤ 1000000000000000000) (ht : 1 ≤ tm ∧ tm ≤ 60) (hm : -4 ≤ mo ∧ mo ≤ 4) (lo : 0 ≤ n + (tm - 1) * mo) (hi : n + tm * 9 ≤ 1000000000000000000) : okSer (roomS b) n tm mo = true := by
  unfold okSer
  rw [okMeet_roomS, show fitN n = true from decide_eq_true hn, decide_eq_true ht, Bool.true_and, Bool.true_and, List.all_eq_true]
  intro i hi2
  have hi3 := List.mem_range.mp hi2
  rw [okMeet_roomS]
  refine decide_eq_true ?_
  have : mo = -4 ∨ mo = -3 ∨ mo = -2 ∨ mo = -1 ∨ mo = 0 ∨ mo = 1 ∨ mo = 2 ∨ mo = 3 ∨ mo = 4 := by omega
  rcases this with rfl | rfl | rfl | rfl | rfl | rfl | rfl | rfl | rfl <;> omega
section
variable {P : Program} {w : World} {K : PySem.W.Frag} {mg : Str → Option Value} {base : Heap} {C EB TU pS gS : Addr} {mc : Value}
abbrev s__law_booking : Stmt := top 41
abbrev n__law_booking : List Str := ["_law_h", "_law_room", "_law_need", "_law_kind", "_law_needs", "_law_steps", "_law_many", "_law_plus", "_law_words", "_law_k", "_law_one", "_law_turn"]
theorem sc__law_booking : FnScope n__law_booking ["_law_h"] (defScope s__law_booking) := ⟨rfl, rfl, rfl, by decide +kernel, rfl, by decide +kernel, by decide +kernel⟩
theorem ok__law_booking {f f__law_next : Addr} {fd : FuncData} (F : Fun K "_law_booking" "_law_booking" s__law_booking f fd) (B : Bt mg) (D__law_next : Dn P w K mg base 1 "_law_next" f__law_next spNext) : FnOk P w K mg base CX0 3 f fd ["_law_h"] (spDraw K) := by
  refine F.ok sc__law_booking (fun vs H Q E h => ?_) (fun cdv A outer s H vs Q E hr h => ?_)
  · obtain ⟨h, l, rfl, _⟩ := h
    rfl
  · obtain ⟨h, l, rfl, N0, k⟩ := h
    refine ⟨_, pss_cons (ps_asg (pe_tup (pa_cons (pe_ix ix_list (pe_lst (pa_cons pe_str (pa_cons pe_str pa_nil))) (pe_callR D__law_next.ok (hr.mono (by decide)) rfl D__law_next.at_ D__law_next.kp pass0 (pa_cons (pv 0) (pa_cons pe_int pa_nil))) (fun _ _ => rfl)) (pa_cons (pe_callR D__law_next.ok (hr.mono (by decide)) rfl D__law_next.at_ D__law_next.kp pass0 (pa_cons (pv 0) (pa_cons (pe_ix ix_list (pe_lst (pa_cons pe_int (pa_cons (pe_op op_add (pe_op op_pow pe_int pe_int) pe_int) pa_nil))) (pe_op op_fdiv (pe_callR D__law_next.ok (hr.mono (by decide)) rfl D__law_next.at_ D__law_next.kp pass0 (pa_cons (pv 0) (pa_cons pe_int pa_nil))) pe_int) (fun _ _ => rfl)) pa_nil))) (pa_cons (pe_callR D__law_next.ok (hr.mono (by decide)) rfl D__law_next.at_ D__law_next.kp pass0 (pa_cons (pv 0) (pa_cons pe_int pa_nil))) pa_nil)))) (pg_tup rfl (pgs_cons (pg_name (i := 1) sc__law_booking.nd rfl (.inr rfl)) (pgs_cons (pg_name (i := 2) sc__law_booking.nd rfl (.inr rfl)) (pgs_cons (pg_name (i := 3) sc__law_booking.nd rfl (.inl rfl)) pgs_nil)))))
      (pss_cons (ps_if (pt_cmpR op_eq (pv 3) pe_int (nomark _))
        (pss_one (ps_ret (pe_tup (pa_cons (pe_lst (pa_cons pe_str pa_nil)) (pa_cons (pe_lst (pa_cons (pe_tup (pa_cons pe_str pa_nil)) pa_nil)) pa_nil))))) pss_nil)
      (pss_cons (ps_if (pt_cmpR op_eq (pv 3) pe_int (nomark _))
        (pss_one (ps_ret (pe_tup (pa_cons (pe_lst (pa_cons (pv 1) (pa_cons (pe_callTy call_str_int (by rfl) B.str (by decide +kernel) (pa_cons (pv 2) pa_nil)) pa_nil))) (pa_cons (pe_lst (pa_cons (pe_tup (pa_cons (pv 1) (pa_cons (pv 2) pa_nil))) pa_nil)) pa_nil))))) pss_nil)
      (pss_cons (ps_if (pt_cmpR op_eq (pv 3) pe_int (nomark _))
        (pss_cons (ps_set (i := 4) sc__law_booking.nd rfl (.inr rfl) (pe_lc (own := [("_law_k", 9)]) (g := gName 9) (tt := tYes) (te := (fun σ H Q => (tCons (tVar 0) (tCons (tC (.int 30)) tNil)) σ H fun vs H1 => spNext vs H1 Q E0)) rfl sc__law_booking.nd (pi_range1 rfl B.range (pa_cons (pe_op op_add pe_int (pe_callR D__law_next.ok (hr.mono (by decide)) rfl D__law_next.at_ D__law_next.kp pass0 (pa_cons (pv 0) (pa_cons pe_int pa_nil)))) pa_nil)) (blkOk_by (N := n__law_booking) (sc := defScope s__law_booking) (by decide +kernel)) (fun _ _ _ _ _ => pg_name (i := 9) sc__law_booking.nd rfl (.inl rfl)) (fun _ _ _ _ _ => by exact pts_nil) (fun _ _ _ _ _ => by exact (pe_callR D__law_next.ok (hr.mono (by decide)) rfl D__law_next.at_ D__law_next.kp pass0 (pa_cons (pv 0) (pa_cons pe_int pa_nil))))))
        (pss_cons (ps_setLc (i := 5) (own := [("_law_k", 9)]) (g := gName 9) (tt := tYes) (te := (tTup (tCons (tOp (rIxL K) (tLst (tCons (tC (.str "red")) (tCons (tC (.str "blue")) tNil))) (tOp (rI (fun _ j => 0 < j) fun i j => .int (i % j)) (tVar 9) (tC (.int 2)))) (tCons (tOp (rIxL K) (tVar 4) (tVar 9)) tNil)))) rfl sc__law_booking.nd rfl rfl (sw_true rfl rfl rfl (by decide +kernel)) (pi_range1 rfl B.range (pa_cons (pe_callB call_len_seq (by rfl) B.len PySem.boot_len (pa_cons (pv 4) pa_nil)) pa_nil)) (blkOk_by (N := n__law_booking) (sc := defScope s__law_booking) (by decide +kernel)) (fun _ _ _ _ _ => pg_name (i := 9) sc__law_booking.nd rfl (.inl rfl)) (fun _ _ _ _ _ => by exact pts_nil) (fun _ _ _ _ _ => by exact (pe_tup (pa_cons (pe_ix ix_list (pe_lst (pa_cons pe_str (pa_cons pe_str pa_nil))) (pe_op op_mod (pv 9) pe_int) (fun _ _ => rfl)) (pa_cons (pe_ix ix_list (pv 4) (pv 9) (fun _ _ => rfl)) pa_nil)))))
        (pss_one (ps_ret (pe_tup (pa_cons (pe_op op_cat (pe_lst (pa_cons pe_str pa_nil)) (pe_lc (own := [("_law_one", 10)]) (g := gName 10) (tt := tYes) (te := (tCB (fun xs H Q => ∃ i : Int, xs = [.int i] ∧ i.natAbs.log2 < 1920 ∧ Q (.str (Str.ofString (toString i))) H) (tCons (tVar 10) tNil))) rfl sc__law_booking.nd (pi_list (pv 4)) (blkOk_by (N := n__law_booking) (sc := defScope s__law_booking) (by decide +kernel)) (fun _ _ _ _ _ => pg_name (i := 10) sc__law_booking.nd rfl (.inl rfl)) (fun _ _ _ _ _ => by exact pts_nil) (fun _ _ _ _ _ => by exact (pe_callTy call_str_int (by rfl) B.str (by decide +kernel) (pa_cons (pv 10) pa_nil))))) (pa_cons (pv 5) pa_nil))))))) pss_nil)
      (pss_cons (ps_asg (pe_tup (pa_cons (pe_op op_add pe_int (pe_callR D__law_next.ok (hr.mono (by decide)) rfl D__law_next.at_ D__law_next.kp pass0 (pa_cons (pv 0) (pa_cons (pe_ix ix_list (pe_lst (pa_cons pe_int (pa_cons pe_int pa_nil))) (pe_op op_fdiv (pe_callR D__law_next.ok (hr.mono (by decide)) rfl D__law_next.at_ D__law_next.kp pass0 (pa_cons (pv 0) (pa_cons pe_int pa_nil))) pe_int) (fun _ _ => rfl)) pa_nil)))) (pa_cons (pe_op op_sub (pe_callR D__law_next.ok (hr.mono (by decide)) rfl D__law_next.at_ D__law_next.kp pass0 (pa_cons (pv 0) (pa_cons pe_int pa_nil))) pe_int) pa_nil))) (pg_tup rfl (pgs_cons (pg_name (i := 6) sc__law_booking.nd rfl (.inl rfl)) (pgs_cons (pg_name (i := 7) sc__law_booking.nd rfl (.inr rfl)) pgs_nil))))
      (C8.pss_cut (ps_if (PW.pt (pw_or (pt_cmpR op_lt (pe_op op_add (pv 2) (pe_op op_mul (pe_op op_sub (pv 6) pe_int) (pv 7))) pe_int (nomark _)) (pw_or1 (pt_cmpR op_gt (pe_op op_add (pv 2) (pe_op op_mul (pv 6) pe_int)) (pe_op op_pow pe_int pe_int) (nomark _)))))
        (pss_one (ps_set (i := 2) sc__law_booking.nd rfl (.inr rfl) pe_int)) pss_nil)
      (pss_cons (ps_setLc (i := 5) (own := [("_law_turn", 11)]) (g := gName 11) (tt := tYes) (te := (tTup (tCons (tVar 1) (tCons (tOp (rI0 fun i j => .int (i + j)) (tVar 2) (tOp (rI CMul fun i j => .int (i * j)) (tVar 11) (tVar 7))) tNil)))) rfl sc__law_booking.nd rfl rfl (sw_true rfl rfl rfl (by decide +kernel)) (pi_range1 rfl B.range (pa_cons (pv 6) pa_nil)) (blkOk_by (N := n__law_booking) (sc := defScope s__law_booking) (by decide +kernel)) (fun _ _ _ _ _ => pg_name (i := 11) sc__law_booking.nd rfl (.inl rfl)) (fun _ _ _ _ _ => by exact pts_nil) (fun _ _ _ _ _ => by exact (pe_tup (pa_cons (pv 1) (pa_cons (pe_op op_add (pv 2) (pe_op op_mul (pv 11) (pv 7))) pa_nil)))))
      (pss_cons (ps_set (i := 8) sc__law_booking.nd rfl (.inl rfl) (pe_lst (pa_cons (pv 1) (pa_cons (pe_callTy call_str_int (by rfl) B.str (by decide +kernel) (pa_cons (pv 2) pa_nil)) (pa_cons pe_str (pa_cons (pe_callTy call_str_int (by rfl) B.str (by decide +kernel) (pa_cons (pv 6) pa_nil)) pa_nil))))))
      (pss_one (ps_ret (pe_tup (pa_cons (pe_ifExp (pt_cmpR op_ne (pv 7) pe_int (nomark _)) (pe_op op_cat (pv 8) (pe_lst (pa_cons pe_str (pa_cons (pe_callTy call_str_int (by rfl) B.str (by decide +kernel) (pa_cons (pv 7) pa_nil)) pa_nil)))) (pv 8)) (pa_cons (pv 5) pa_nil)))))))))))), ?_⟩
    refine ⟨by show 2 ≤ sizeLine; decide, fun p1 hp1 => ?_⟩
    have s1 := same_upd (o := .lst [.str "red", .str "blue"]) hp1
    have e1 := upd_same (H := H) (a := p1) (o := .lst [.str "red", .str "blue"])
    generalize upd H p1 (.lst [.str "red", .str "blue"]) = H1 at *
    refine ⟨_, rfl, h, l, 2, rfl, N0.same s1, by decide, by decide, fun r1 H2 r10 r11 N2 b2 => ?_⟩
    have b12 : But2 h l H H2 := (But2.of s1).trans b2
    have e1' : H2 p1 = some (.lst [.str "red", .str "blue"]) := b2 _ _ (N0.notH hp1) (N0.notL hp1) e1
    refine ⟨p1, _, r1, _, rfl, rfl, SqL.of e1', room_at (by omega), _, rfl, _, _, rfl, rfl, ⟨by decide, by decide, by decide⟩, _, _, rfl, rfl, by show 2 ≤ sizeLine; decide, fun p2 hp2 => ?_⟩
    have s3 := same_upd (o := .lst [.int 20, .int (10 ^ (18 : Int).toNat + 1)]) hp2
    have e3 := upd_same (H := H2) (a := p2) (o := .lst [.int 20, .int (10 ^ (18 : Int).toNat + 1)])
    have nh2 := N2.notH hp2
    have nl2 := N2.notL hp2
    generalize upd H2 p2 (.lst [.int 20, .int (10 ^ (18 : Int).toNat + 1)]) = H3 at *
    refine ⟨_, rfl, h, l, 5, rfl, N2.same s3, by decide, by decide, fun r2 H4 r20 r21 N4 b4 => ?_⟩
    have b14 := b12.trans ((But2.of s3).trans b4)
    have e3' := b4 _ _ nh2 nl2 e3
    refine ⟨_, _, rfl, rfl, ⟨by decide, by decide⟩, p2, _, r2 / 4, _, rfl, rfl, SqL.of e3', two_at (by omega), ?_⟩
    have lim0 : (0 : Int) < (if r2 / 4 = 0 then 20 else 10 ^ (18 : Int).toNat + 1) ∧ (if r2 / 4 = 0 then 20 else 10 ^ (18 : Int).toNat + 1) ≤ (1000000000000000001 : Int) := by
      split
      · decide
      · decide
    generalize (if r2 / 4 = 0 then (20 : Int) else 10 ^ (18 : Int).toNat + 1) = lim at *
    refine ⟨h, l, lim, rfl, N4, lim0.1, by omega, fun n H5 n0 n1 N5 b5 => ⟨_, rfl, h, l, 5, rfl, N5, by decide, by decide, fun kd H6 k0 k1 N6 b6 => ⟨by show 3 ≤ sizeLine; decide, fun t6 ht6 => ?_⟩⟩⟩
    have s7 := same_upd (o := .tup [.str (roomS (decide (r1 = 0))), .int n, .int kd]) ht6
    have e7 := upd_same (H := H6) (a := t6) (o := .tup [.str (roomS (decide (r1 = 0))), .int n, .int kd])
    refine ⟨t6, _, rfl, SqT.of e7, rfl, _, _, rfl, _, _, rfl, _, _, rfl, rfl, ?_⟩
    have N7 := N6.same s7
    have b17 : But2 h l H (upd H6 t6 (.tup [.str (roomS (decide (r1 = 0))), .int n, .int kd])) := b14.trans (b5.trans (b6.trans (But2.of s7)))
    generalize upd H6 t6 (.tup [.str (roomS (decide (r1 = 0))), .int n, .int kd]) = H7 at *
    generalize decide (r1 = 0) = b at *
    have hn : 0 ≤ n ∧ n ≤ 1000000000000000000 := by omega
    clear s1 e1 hp1 e1' s3 e3 hp2 nh2 nl2 e3' b4 b14 b12 b2 N2 N4 N5 N6 b5 b6 s7 e7 ht6 lim0 n1
    have fin : ∀ (q : BkD) (p a c : Addr) (us : List V) (H8 : Hp), okB q → NextAt H8 h l → But2 h l H H8 → H8 a = some (.lst ((bWords q).map V.str)) → H8 c = some (.lst us) → StepsV K H8 us (bSteps q) → H8 p = none → H a = none → H c = none → a ≠ c → Q (.ref p) (upd H8 p (.tup [.ref a, .ref c])) :=
      fun q p a c us H8 ok N8 b8 ea ec su hp ha hc ne => k q p a c us _ ok (N8.same (same_upd hp)) (b8.trans (But2.of (same_upd hp))) upd_same ((same_upd hp) _ _ ea) ((same_upd hp) _ _ ec) (su.same (same_upd hp)) (b8.none N0 hp N8) ha hc ne
    have new : ∀ {p : Addr} {H8 : Hp}, Same H7 H8 → H8 p = none → H p = none := fun s hp => b17.none N0 (same_none s hp) N7
    have eqi : ∀ {x y : Int}, x ≠ y → decide (V.int x = V.int y) = false := n_ne
    refine ⟨_, rfl, rfl, _, rfl, ?_⟩
    by_cases c0 : kd = 0
    · subst c0
      refine ifT rfl ⟨by show 1 ≤ sizeLine; decide, fun a ha => ⟨by show 1 ≤ sizeLine; decide, fun t ht => ⟨by show 1 ≤ sizeLine; decide, fun c hc => ⟨by show 2 ≤ sizeLine; decide, fun p hp => ?_⟩⟩⟩⟩
      have s8 := same_upd (o := .lst [.str "turn"]) ha
      have e8 := upd_same (H := H7) (a := a) (o := .lst [.str "turn"])
      generalize upd H7 a (.lst [.str "turn"]) = H8 at *
      have s9 := same_upd (o := .tup [.str "turn"]) ht
      have e9 := upd_same (H := H8) (a := t) (o := .tup [.str "turn"])
      generalize upd H8 t (.tup [.str "turn"]) = H9 at *
      have s10 := same_upd (o := .lst [.ref t]) hc
      have e10 := upd_same (H := H9) (a := c) (o := .lst [.ref t])
      have ne : a ≠ c := ne_of_none (s9 _ _ e8) hc
      have cn := new (s8.trans s9) hc
      generalize upd H9 c (.lst [.ref t]) = H10 at *
      have sA := s8.trans (s9.trans s10)
      exact fin .turn p a c [.ref t] H10 trivial (N7.same sA) (b17.trans (But2.of sA)) ((s9.trans s10) _ _ e8) e10 (.cons ⟨t, rfl, fun H' kp => SqT.of (kp _ _ (s10 _ _ e9))⟩ .nil) hp (new (Same.refl _) ha) cn ne
    refine ifF (eqi c0) ⟨_, rfl, rfl, _, rfl, ?_⟩
    by_cases c1 : kd = 1
    · subst c1
      refine ifT rfl ⟨_, rfl, _, rfl, n, rfl, log_ok (by omega), by show 2 ≤ sizeLine; decide, fun a ha => ⟨_, rfl, _, rfl, by show 2 ≤ sizeLine; decide, fun t ht => ⟨by show 1 ≤ sizeLine; decide, fun c hc => ⟨by show 2 ≤ sizeLine; decide, fun p hp => ?_⟩⟩⟩⟩
      have s8 := same_upd (o := .lst [.str (roomS b), .str (iS n)]) ha
      have e8 := upd_same (H := H7) (a := a) (o := .lst [.str (roomS b), .str (iS n)])
      generalize upd H7 a (.lst [.str (roomS b), .str (iS n)]) = H8 at *
      have s9 := same_upd (o := .tup [.str (roomS b), .int n]) ht
      have e9 := upd_same (H := H8) (a := t) (o := .tup [.str (roomS b), .int n])
      generalize upd H8 t (.tup [.str (roomS b), .int n]) = H9 at *
      have s10 := same_upd (o := .lst [.ref t]) hc
      have e10 := upd_same (H := H9) (a := c) (o := .lst [.ref t])
      have ne : a ≠ c := ne_of_none (s9 _ _ e8) hc
      have cn := new (s8.trans s9) hc
      generalize upd H9 c (.lst [.ref t]) = H10 at *
      have sA := s8.trans (s9.trans s10)
      exact fin (.meet b n) p a c [.ref t] H10 hn (N7.same sA) (b17.trans (But2.of sA)) ((s9.trans s10) _ _ e8) e10 (.cons ⟨t, rfl, fun H' kp => SqT.of (kp _ _ (s10 _ _ e9))⟩ .nil) hp (new (Same.refl _) ha) cn ne
    refine ifF (eqi c1) ⟨_, rfl, rfl, _, rfl, ?_⟩
    by_cases c2 : kd = 2
    · subst c2
      refine ifT rfl ⟨_, rfl, h, l, 5, rfl, N7, by decide, by decide, fun r3 H8 r30 r31 N8 b8 => ⟨_, _, rfl, rfl, 1 + r3, rfl, by omega, by omega, fun D hD => ?_⟩⟩
      have sD := same_upd (o := .lst []) hD
      have nDh := N8.notH hD
      have nDl := N8.notL hD
      have c8 := b17.trans b8
      have hh := lc_range (lo := 0) (n := (1 + r3).toNat) (g := gName 9) (tt := tYes) (te := fun σ H Q => tCons (tVar 0) (tCons (tC (V.int 30)) tNil) σ H fun vs H1 => spNext vs H1 Q E0) (vs := [9])
        (σ := [some (.ref h), some (.str (roomS b)), some (.int n), some (.int 2), none, none, none, none, none, none, none, none]) (H1 := H8) (D := D) (Qd := fun H2 => ∃ ns : List Int, ns.length = (1 + r3).toNat ∧ (∀ n ∈ ns, 0 ≤ n ∧ n < 30) ∧ H2 D = some (.lst (ns.map V.int)) ∧ NextAt H2 h l ∧ But2 h l H8 H2)
        (fun i H2 => ∃ ns : List Int, ns.length = i ∧ (∀ n ∈ ns, 0 ≤ n ∧ n < 30) ∧ H2 D = some (.lst (ns.map V.int)) ∧ NextAt H2 h l ∧ But2 h l H8 H2) ⟨[], rfl, (fun n hn => absurd hn (by simp)), upd_same, N8.same sD, But2.of sD⟩ (fun i H2 hi ⟨ns, ln, bn, en, N2, b2⟩ => ?_) (fun H2 q => q)
      · obtain ⟨W, ⟨w0, h0⟩, hW⟩ := hh
        refine ⟨W, ⟨w0, h0⟩, fun i m H2 w => ?_⟩
        rcases hW i m H2 w with ⟨st, ns, ln, bn, en, N2, b2⟩ | r
        · refine .inl ⟨st, ?_⟩
          clear w hW h0 w0 st
          have c2' := c8.trans b2
          have nDn : H D = none := c8.none N0 hD N8
          have ml : (ns.map V.int).length = ns.length := List.length_map ..
          refine ⟨_, rfl, D, _, rfl, .inl (SqL.of en), ((ns.map V.int).length : Nat), rfl, by omega, by omega, fun D2 hD2 => ?_⟩
          have sD2 := same_upd (o := .lst []) hD2
          have hh := lc_range (lo := 0) (n := (((ns.map V.int).length : Nat) : Int).toNat) (g := gName 9) (tt := tYes) (te := (tTup (tCons (tOp (rIxL K) (tLst (tCons (tC (V.str "red")) (tCons (tC (V.str "blue")) tNil))) (tOp (rI (fun _ j => 0 < j) fun i j => V.int (i % j)) (tVar 9) (tC (V.int 2)))) (tCons (tOp (rIxL K) (tVar 4) (tVar 9)) tNil)))) (vs := [9])
            (σ := [some (.ref h), some (.str (roomS b)), some (.int n), some (.int 2), some (.ref D), none, none, none, none, none, none, none]) (H1 := H2) (D := D2) (Qd := fun H3 => Same H2 H3 ∧ ∃ us, H3 D2 = some (.lst us) ∧ StepsV K H3 us (altS ns))
            (fun i H3 => Same H2 H3 ∧ ∃ us, us.length = i ∧ H3 D2 = some (.lst us) ∧ StepsV K H3 us (altN ns i)) ⟨sD2, [], rfl, upd_same, .nil⟩ (fun i H3 hi ⟨s, us, lu, eu, su⟩ => ?_) (fun H3 ⟨s, us, lu, eu, su⟩ => ⟨s, us, eu, ?_⟩)
          · obtain ⟨W, ⟨w0, h0⟩, hW⟩ := hh
            refine ⟨W, ⟨w0, h0⟩, fun i m H3 w => ?_⟩
            rcases hW i m H3 w with ⟨st, s3, us, eu, su⟩ | r
            · refine .inl ⟨st, by show 1 ≤ sizeLine; decide, fun p6 hp6 => ?_⟩
              clear w hW h0 w0 st
              have s4 := same_upd (o := .lst [.str "alternate"]) hp6
              have e4 := upd_same (H := H3) (a := p6) (o := .lst [.str "alternate"])
              generalize upd H3 p6 (.lst [.str "alternate"]) = H4 at *
              refine ⟨_, rfl, D, rfl, ⟨_, SqL.of (s4 _ _ (s3 _ _ en))⟩, fun D3 hD3 => ?_⟩
              have sD3 := same_upd (o := .lst []) hD3
              have hh := lc_list (K := K) (a := D) (xs := ns.map V.int) (g := gName 10) (tt := tYes) (te := (tCB (fun xs H Q => ∃ i : Int, xs = [V.int i] ∧ i.natAbs.log2 < 1920 ∧ Q (V.str (Str.ofString (toString i))) H) (tCons (tVar 10) tNil))) (vs := [10])
                (σ := [some (.ref h), some (.str (roomS b)), some (.int n), some (.int 2), some (.ref D), some (.ref D2), none, none, none, none, none, none]) (H1 := H4) (D := D3) (Qd := fun H5 => Same H4 H5 ∧ H5 D3 = some (.lst (ns.map fun n => V.str (iS n))))
                (fun i H5 => Same H4 H5 ∧ H5 D3 = some (.lst ((ns.take i).map fun n => V.str (iS n)))) ⟨sD3, upd_same⟩ (fun i H5 _ ⟨s, _⟩ => SqL.of (s _ _ (s4 _ _ (s3 _ _ en)))) (fun i x H5 hx ⟨s, e⟩ => ?_) (fun H5 ⟨s, e⟩ => ⟨s, ?_⟩)
              · obtain ⟨W, ⟨w0, h0⟩, hW⟩ := hh
                refine ⟨W, ⟨w0, h0⟩, fun i m H5 w => ?_⟩
                rcases hW i m H5 w with ⟨st, s5, e5⟩ | r
                · refine .inl ⟨st, ?_⟩
                  clear w hW h0 w0 st
                  refine ⟨p6, D3, _, _, rfl, rfl, s5 _ _ e4, e5, by rw [List.length_map, sizeLine_eq]; show 1 + ns.length ≤ _; omega, fun a2 ha2 => ⟨_, rfl, by show 2 ≤ sizeLine; decide, fun p hp => ?_⟩⟩
                  have s35 := s4.trans s5
                  have s6 := same_upd (o := .lst ([V.str "alternate"] ++ ns.map fun n => V.str (iS n))) ha2
                  have s26 := s3.trans (s35.trans s6)
                  have okb : okB (.alt ns) := ⟨by omega, by omega, bn⟩
                  refine fin (.alt ns) p a2 D2 us _ okb (N2.same s26) (c2'.trans (But2.of s26)) ?_ ((s35.trans s6) _ _ eu) (su.same (s35.trans s6)) hp ?_ ?_ (ne_of_none (s35 _ _ eu) ha2).symm
                  · rw [upd_same]
                    show some (HO.lst (V.str "alternate" :: ns.map fun n => V.str (iS n))) = some (HO.lst (V.str "alternate" :: (ns.map iS).map V.str))
                    rw [List.map_map]
                    rfl
                  · exact c2'.none N0 (same_none (s3.trans s35) ha2) N2
                  · exact c2'.none N0 hD2 N2
                · exact .inr r
              · obtain ⟨y, hy, rfl⟩ : ∃ y, ns[i]? = some y ∧ x = V.int y := by
                  rw [List.getElem?_map] at hx
                  cases ez : ns[i]? with
                  | none =>
                    rw [ez] at hx
                    exact nomatch hx
                  | some a =>
                    rw [ez] at hx
                    exact ⟨a, rfl, (Option.some.inj hx).symm⟩
                have by_ := bn y (List.mem_of_getElem? hy)
                have il : i < ns.length := (List.getElem?_eq_some_iff.mp hy).1
                refine ⟨rfl, _, rfl, y, rfl, log_ok (by omega), _, e, by rw [List.length_map, List.length_take, sizeLine_eq]; omega, fun z o ez => (upd_ne (ne_of_none ez hD3)).trans (s _ _ ez), ?_⟩
                rw [upd_same, List.take_add_one, hy, List.map_append]
                rfl
              · rw [List.length_map, List.take_length] at e
                exact e
            · exact .inr r
          · have il : i < ns.length := by omega
            obtain ⟨y, hy⟩ : ∃ y, ns[i]? = some y := ⟨_, List.getElem?_eq_getElem il⟩
            refine ⟨rfl, by show 2 ≤ sizeLine; decide, fun p5 hp5 => ?_⟩
            have s4 := same_upd (o := .lst [.str "red", .str "blue"]) hp5
            have e4 := upd_same (H := H3) (a := p5) (o := .lst [.str "red", .str "blue"])
            generalize upd H3 p5 (.lst [.str "red", .str "blue"]) = H4 at *
            refine ⟨_, rfl, _, _, rfl, rfl, (by show (0 : Int) < 2; decide), p5, _, _, _, rfl, rfl, SqL.of e4, room_at (r := ((0 : Int) + (i : Nat)) % 2) (by omega), _, rfl, _, rfl, D, _, _, _, rfl, rfl, SqL.of (s4 _ _ (s _ _ en)), at_of (j := i) (by omega) (by rw [List.getElem?_map, hy]; rfl), by show 2 ≤ sizeLine; decide, fun t ht2 => ?_⟩
            have er : decide (((0 : Int) + (i : Nat)) % 2 = 0) = decide (i % 2 = 0) := by
              rw [decide_eq_decide]
              omega
            rw [er]
            have e2 := (s4.trans (same_upd (o := .tup [.str (roomS (decide (i % 2 = 0))), .int y]) ht2)) _ _ eu
            have keep : ∀ u xs, upd H4 t (.tup [.str (roomS (decide (i % 2 = 0))), .int y]) u = some (.tup xs) → upd (upd H4 t (.tup [.str (roomS (decide (i % 2 = 0))), .int y])) D2 (.lst (us ++ [.ref t])) u = some (.tup xs) := fun u xs e => by
              rw [upd_ne (ne_of e e2 fun z => nomatch z)]
              exact e
            refine ⟨us, e2, by rw [lu, sizeLine_eq]; omega, fun z o e => (upd_ne (ne_of_none e hD2)).trans ((s4.trans (same_upd ht2)) _ _ (s _ _ e)), us ++ [.ref t], by simp [lu], upd_same, ?_⟩
            rw [altN_succ]
            refine ((su.same (s4.trans (same_upd ht2))).mono keep).append (.cons ⟨t, rfl, fun H3 kp => SqT.of (kp _ _ (keep _ _ ?_))⟩ .nil)
            rw [upd_same, List.getD_eq_getElem?_getD, hy]
            rfl
          · rw [Int.toNat_natCast, ml] at su
            exact su
        · exact .inr r
      · refine ⟨rfl, _, rfl, h, l, 30, rfl, N2, by decide, by decide, fun r H3 r0 r1 N3 b3 => ⟨ns.map V.int, b3 _ _ nDh nDl en, by rw [List.length_map, sizeLine_eq]; omega, ns ++ [r], by simp [ln], fun y hy => ?_, ?_, N3.updX nDh nDl, fun y o y1 y2 e => (upd_ne (ne_of_none e hD)).trans (b3 _ _ y1 y2 (b2 _ _ y1 y2 e))⟩⟩
        · rcases List.mem_append.mp hy with z | z
          · exact bn y z
          · rw [List.mem_singleton.mp z]; exact ⟨r0, r1⟩
        · rw [upd_same, List.map_append]
          rfl
    refine ifF (eqi c2) ?_
    refine ⟨_, rfl, by show 2 ≤ sizeLine; decide, fun p3 hp3 => ?_⟩
    have s8 := same_upd (o := .lst [.int 5, .int 60]) hp3
    have e8 := upd_same (H := H7) (a := p3) (o := .lst [.int 5, .int 60])
    have nh8 := N7.notH hp3
    have nl8 := N7.notL hp3
    generalize upd H7 p3 (.lst [.int 5, .int 60]) = H8 at *
    refine ⟨_, rfl, h, l, 9, rfl, N7.same s8, by decide, by decide, fun r3 H9 r30 r31 N9 b9 => ?_⟩
    have e9 := b9 _ _ nh8 nl8 e8
    refine ⟨_, _, rfl, rfl, ⟨by decide, by decide⟩, p3, _, r3 / 8, _, rfl, rfl, SqL.of e9, two_at (by omega), ?_⟩
    have lim0 : (0 : Int) < (if r3 / 8 = 0 then 5 else 60) ∧ (if r3 / 8 = 0 then 5 else 60) ≤ (60 : Int) := by
      split
      · decide
      · decide
    generalize (if r3 / 8 = 0 then (5 : Int) else 60) = lim2 at *
    refine ⟨h, l, lim2, rfl, N9, lim0.1, by omega, fun r4 H10 r40 r41 N10 b10 => ⟨_, _, rfl, rfl, _, rfl, h, l, 9, rfl, N10, by decide, by decide, fun r5 H11 r50 r51 N11 b11 => ⟨_, _, rfl, rfl, by show 2 ≤ sizeLine; decide, fun t11 ht11 => ?_⟩⟩⟩
    have s12 := same_upd (o := .tup [.int (1 + r4), .int (r5 - 4)]) ht11
    have e12 := upd_same (H := H11) (a := t11) (o := .tup [.int (1 + r4), .int (r5 - 4)])
    refine ⟨t11, _, rfl, SqT.of e12, rfl, _, _, rfl, _, _, rfl, rfl, ?_⟩
    have N12 := N11.same s12
    have c12 : But2 h l H (upd H11 t11 (.tup [.int (1 + r4), .int (r5 - 4)])) := b17.trans ((But2.of s8).trans (b9.trans (b10.trans (b11.trans (But2.of s12)))))
    generalize upd H11 t11 (.tup [.int (1 + r4), .int (r5 - 4)]) = H12 at *
    obtain ⟨tm, htm⟩ : ∃ tm, tm = 1 + r4 := ⟨_, rfl⟩
    obtain ⟨mo, hmo⟩ : ∃ mo, mo = r5 - 4 := ⟨_, rfl⟩
    rw [← htm, ← hmo]
    have ht : 1 ≤ tm ∧ tm ≤ 60 := by omega
    have hm : -4 ≤ mo ∧ mo ≤ 4 := by omega
    clear s8 e8 nh8 nl8 N9 b9 e9 N10 b10 N11 b11 s12 e12 htm hmo lim0 hp3 new
    have new : ∀ {p : Addr} {H8 : Hp}, Same H12 H8 → H8 p = none → H p = none := fun s hp => c12.none N0 (same_none s hp) N12
    refine ⟨fun σ' H' => H' = H12 ∧ ∃ n2, σ' = [some (.ref h), some (.str (roomS b)), some (.int n2), some (.int kd), none, none, some (.int tm), some (.int mo), none, none, none, none] ∧ (0 ≤ n2 ∧ n2 ≤ 1000000000000000000) ∧ okSer (roomS b) n2 tm mo = true, ?_, ?_⟩
    · have e18 : (10 : Int) ^ (18 : Int).toNat = 1000000000000000000 := by decide
      have fit240 : okSer (roomS b) 240 tm mo = true := ser_fit ⟨by decide, by decide⟩ ht hm (by
        have : mo = -4 ∨ mo = -3 ∨ mo = -2 ∨ mo = -1 ∨ mo = 0 ∨ mo = 1 ∨ mo = 2 ∨ mo = 3 ∨ mo = 4 := by omega
        rcases this with rfl | rfl | rfl | rfl | rfl | rfl | rfl | rfl | rfl <;> omega) (by omega)
      refine ⟨_, rfl, _, rfl, _, _, rfl, rfl, _, rfl, _, _, rfl, rfl, .inl ⟨by omega, by omega⟩, _, _, rfl, rfl, _, _, rfl, rfl, _, rfl, ?_⟩
      by_cases lo : n + (tm - 1) * mo < 0
      · exact ifT (decide_eq_true lo) (ifT rfl ⟨rfl, 240, rfl, ⟨by decide, by decide⟩, fit240⟩)
      · refine ifF (decide_eq_false lo) ⟨_, rfl, _, rfl, _, _, rfl, rfl, .inl ⟨by omega, by omega⟩, _, _, rfl, rfl, _, _, rfl, rfl, ⟨by decide, by decide, by decide⟩, _, _, rfl, rfl, _, rfl, ?_⟩
        rw [e18]
        by_cases hi : 1000000000000000000 < n + tm * 9
        · exact ifT (decide_eq_true hi) ⟨rfl, 240, rfl, ⟨by decide, by decide⟩, fit240⟩
        · exact ifF (decide_eq_false hi) ⟨rfl, n, rfl, hn, ser_fit hn ht hm (by omega) (by omega)⟩
    · rintro σ' H' ⟨rfl, n2, rfl, hn2, ok⟩
      refine ⟨_, rfl, tm, rfl, by omega, by omega, fun D hD => ?_⟩
      have sD := same_upd (o := .lst []) hD
      have hh := lc_range (lo := 0) (n := tm.toNat) (g := gName 11) (tt := tYes) (te := (tTup (tCons (tVar 1) (tCons (tOp (rI0 fun i j => .int (i + j)) (tVar 2) (tOp (rI CMul fun i j => .int (i * j)) (tVar 11) (tVar 7))) tNil)))) (vs := [11])
        (σ := [some (.ref h), some (.str (roomS b)), some (.int n2), some (.int kd), none, none, some (.int tm), some (.int mo), none, none, none, none]) (H1 := H') (D := D) (Qd := fun H2 => Same H' H2 ∧ ∃ us, H2 D = some (.lst us) ∧ StepsV K H2 us (serS b n2 mo tm.toNat))
        (fun i H2 => Same H' H2 ∧ ∃ us, us.length = i ∧ H2 D = some (.lst us) ∧ StepsV K H2 us (serS b n2 mo i)) ⟨sD, [], rfl, upd_same, .nil⟩ (fun i H2 hi ⟨s, us, lu, eu, su⟩ => ?_) (fun H2 ⟨s, us, lu, eu, su⟩ => ⟨s, us, eu, su⟩)
      · obtain ⟨W, ⟨w0, h0⟩, hW⟩ := hh
        refine ⟨W, ⟨w0, h0⟩, fun i m H2 w => ?_⟩
        rcases hW i m H2 w with ⟨st, s2, us, eu, su⟩ | r
        · refine .inl ⟨st, ?_⟩
          have N13 := N12.same s2
          have c13 := c12.trans (But2.of s2)
          clear w hW h0 w0 st
          refine ⟨_, rfl, _, rfl, n2, rfl, log_ok (by omega), _, rfl, tm, rfl, log_ok (by omega), by show 4 ≤ sizeLine; decide, fun a ha => ?_⟩
          have s3 := same_upd (o := .lst [.str (roomS b), .str (iS n2), .str "times", .str (iS tm)]) ha
          have e3 := upd_same (H := H2) (a := a) (o := .lst [.str (roomS b), .str (iS n2), .str "times", .str (iS tm)])
          have nD : D ≠ a := ne_of_none eu ha
          have na : H a = none := new s2 ha
          have nDn : H D = none := new (Same.refl _) hD
          refine ⟨_, rfl, rfl, _, rfl, ?_⟩
          by_cases cm : mo = 0
          · subst cm
            refine ifF rfl ⟨_, rfl, _, rfl, by show 2 ≤ sizeLine; decide, fun p hp => ?_⟩
            exact fin (.ser b n2 tm 0) p a D us _ ⟨hn2, ht, hm, ok⟩ (N13.same s3) (c13.trans (But2.of s3)) e3 (s3 _ _ eu) (su.same s3) hp na nDn (Ne.symm nD)
          · refine ifT (by simp [cm]) ⟨_, rfl, _, rfl, mo, rfl, log_ok (by omega), by show 2 ≤ sizeLine; decide, fun p4 hp4 => ?_⟩
            have s4 := same_upd (o := .lst [.str "more", .str (iS mo)]) hp4
            have e4 := upd_same (H := upd H2 a (.lst [.str (roomS b), .str (iS n2), .str "times", .str (iS tm)])) (a := p4) (o := .lst [.str "more", .str (iS mo)])
            have sx := s3.trans s4
            have ex := s4 _ _ e3
            generalize upd (upd H2 a (.lst [.str (roomS b), .str (iS n2), .str "times", .str (iS tm)])) p4 (.lst [.str "more", .str (iS mo)]) = H4 at *
            refine ⟨a, p4, _, _, rfl, rfl, ex, e4, by show 6 ≤ sizeLine; decide, fun a2 ha2 => ⟨_, rfl, by show 2 ≤ sizeLine; decide, fun p hp => ?_⟩⟩
            have s5 := same_upd (o := .lst ([V.str (roomS b), .str (iS n2), .str "times", .str (iS tm)] ++ [.str "more", .str (iS mo)])) ha2
            have s25 := sx.trans s5
            refine fin (.ser b n2 tm mo) p a2 D us _ ⟨hn2, ht, hm, ok⟩ (N13.same s25) (c13.trans (But2.of s25)) ?_ (s25 _ _ eu) (su.same s25) hp (new (s2.trans sx) ha2) nDn (ne_of_none (sx _ _ eu) ha2).symm
            rw [upd_same]
            show _ = some (HO.lst ((serW (roomS b) n2 tm mo).map V.str))
            unfold serW
            rw [if_neg cm]
            rfl
        · exact .inr r
      · refine ⟨rfl, _, rfl, _, rfl, _, rfl, _, rfl, _, _, rfl, rfl, .inl ⟨by omega, by omega⟩, _, _, rfl, rfl, by show 2 ≤ sizeLine; decide, fun t ht2 => ⟨us, (same_upd ht2) _ _ eu, by rw [lu, sizeLine_eq]; omega, ?_⟩⟩
        rw [Int.zero_add]
        have e2 := (same_upd (o := .tup [.str (roomS b), .int (n2 + (i : Int) * mo)]) ht2) _ _ eu
        have keep : ∀ u xs, upd H2 t (.tup [.str (roomS b), .int (n2 + (i : Int) * mo)]) u = some (.tup xs) → upd (upd H2 t (.tup [.str (roomS b), .int (n2 + (i : Int) * mo)])) D (.lst (us ++ [.ref t])) u = some (.tup xs) := fun u xs e => by
          rw [upd_ne (ne_of e e2 fun z => nomatch z)]
          exact e
        refine ⟨fun y o e => (upd_ne (ne_of_none e hD)).trans ((same_upd ht2) _ _ (s _ _ e)), us ++ [.ref t], by simp [lu], upd_same, ?_⟩
        rw [serS_succ]
        exact ((su.same (same_upd ht2)).mono keep).append (.cons ⟨t, rfl, fun H3 kp => SqT.of (kp _ _ (keep _ _ upd_same))⟩ .nil)
end
end Cc

/-! What a line's words stand for. -/
namespace Cc
open PySem PySem.Spec PyProof.Rows L2 TL
theorem snoc_split {l : List Nat} (h : l ≠ []) : ∃ a c, l = a ++ [c] := ⟨l.dropLast, l.getLast h, (List.dropLast_concat_getLast h).symm⟩
theorem numL_val' : ∀ (n : Nat) (l : List Nat), l.length = n → natOk l = true → numL (valL l) = l
  | 0, l, hn, h => by
    have e : l = [] := List.eq_nil_of_length_eq_zero hn
    rw [e] at h
    cases h
  | n + 1, l, hn, h => by
    have ne : l ≠ [] := fun z => by rw [z] at hn; cases hn
    obtain ⟨a, c, rfl⟩ := snoc_split ne
    unfold natOk at h
    rw [Bool.and_eq_true] at h
    obtain ⟨h1, h3⟩ := h
    rw [Bool.and_eq_true] at h1
    have h2 := digs_mem h1.2
    have hc := h2 c (List.mem_append_right _ List.mem_cons_self)
    rw [val_snoc]
    cases a with
    | nil =>
      have e : valL ([] : List Nat) = 0 := rfl
      rw [e, Nat.zero_mul, Nat.zero_add, numL_lt (by omega)]
      show [48 + (c - 48)] = [c]
      rw [(show 48 + (c - 48) = c by omega)]
    | cons d r =>
      have hd := h2 d (by simp)
      have hd48 : d ≠ 48 := fun z => by
        subst z
        simp at h3
      have ok : natOk (d :: r) = true := by
        unfold natOk
        have g : digs (d :: r) = true := List.all_eq_true.mpr fun y hy => decide_eq_true (h2 y (List.mem_append_left _ hy))
        rw [g]
        simp [hd48]
      have ih := numL_val' n (d :: r) (by simpa using hn) ok
      have vp : 0 < valL (d :: r) := val_pos (by omega)
      rw [numL_step (by omega), show (valL (d :: r) * 10 + (c - 48)) / 10 = valL (d :: r) by omega, show (valL (d :: r) * 10 + (c - 48)) % 10 = c - 48 by omega, ih, show 48 + (c - 48) = c by omega]
abbrev numW (w : Str) : Option Int := intL (tl w)
/-- the integer of a word, written, is the word -/
theorem iS_num {w : Str} {v : Int} (h : numW w = some v) : iS v = w := by
  unfold numW intL at h
  by_cases c : natOk (tl w) = true
  · rw [if_pos c] at h
    cases h
    refine ext_tl ?_
    rw [tl_num, numL_val' _ _ rfl c]
  · rw [if_neg c] at h
    split at h
    · rename_i r e
      split at h
      · rename_i q
        cases h
        rw [Bool.and_eq_true] at q
        have v0 : 0 < valL r := by
          cases r with
          | nil => exact nomatch q.1
          | cons d r' =>
            have q1 := q.1
            unfold natOk at q1
            rw [Bool.and_eq_true, Bool.and_eq_true] at q1
            have hd := digs_mem q1.1.2 d List.mem_cons_self
            by_cases z : d = 48
            · subst z
              have : r' ≠ [] := fun y => by
                subst y
                exact absurd q.2 (by decide)
              have : 1 < (48 :: r').length := by
                cases r' with
                | nil => exact absurd rfl this
                | cons _ _ => simp
              have q2 := q1.2
              rw [decide_eq_true this] at q2
              exact nomatch q2
            · exact val_pos (by omega)
        rw [iS_neg _ v0]
        refine ext_tl ?_
        rw [tl_append, tl_num, numL_val' _ _ rfl q.1, e]
        show tl "-" ++ r = _
        rw [tl_dash]
        rfl
      · exact nomatch h
    · exact nomatch h
def WordOk (w : Str) : Prop := w.length ≤ 600 ∧ ∀ v, numW w = some v → -1000 < v ∧ v ≤ 1000000000000000000
def meetR (w : Str) : Option Int → Option (List Stp)
  | some n => if okMeet w n = true then some [Stp.meet (decide (w = "red")) n] else none
  | none => none
def serR (w : Str) : Option Int → Option Int → Option Int → Option (List Stp)
  | some n, some tm, some mo => if okSer w n tm mo = true then some (serS (decide (w = "red")) n mo tm.toNat) else none
  | _, _, _ => none
def altR (r : List Str) : Option (List Stp) := if okAltO (r.map numW) = true then some (altS (allN (r.map numW))) else none
def readB : List Str → Option (List Stp)
  | [] => none
  | w :: r => if w = "turn" ∧ r = [] then some [Stp.turn] else if w = "alternate" then altR r else
    match r with
    | [n] => meetR w (numW n)
    | [n, t, k] => if t = "times" then serR w (numW n) (numW k) (some 0) else none
    | [n, t, k, m, q] => if t = "times" ∧ m = "more" ∧ q ≠ "0" then serR w (numW n) (numW k) (numW q) else none
    | _ => none
theorem meetR_some {w : Str} {o : Option Int} {ss : List Stp} (h : meetR w o = some ss) : ∃ b n, w = roomS b ∧ o = some n ∧ okMeet w n = true ∧ ss = [Stp.meet b n] := by
  cases o with
  | none => exact nomatch h
  | some n =>
    have h' : (if okMeet w n = true then some [Stp.meet (decide (w = "red")) n] else none) = some ss := h
    by_cases q : okMeet w n = true
    · rw [if_pos q] at h'
      obtain ⟨b, rfl⟩ := okMeet_room q
      exact ⟨b, n, rfl, rfl, q, by rw [← Option.some.inj h']; cases b <;> rfl⟩
    · rw [if_neg q] at h'
      exact nomatch h'
theorem meetR_none {w : Str} {o : Option Int} (h : meetR w o = none) : okMeetO w o = false := by
  cases o with
  | none => unfold okMeetO inB; rw [Bool.and_false]
  | some n =>
    have h' : (if okMeet w n = true then some [Stp.meet (decide (w = "red")) n] else none) = none := h
    by_cases q : okMeet w n = true
    · rw [if_pos q] at h'
      exact nomatch h'
    · exact Bool.eq_false_iff.mpr q
theorem serR_some {w : Str} {on ot om : Option Int} {ss : List Stp} (h : serR w on ot om = some ss) : ∃ b n tm mo, w = roomS b ∧ on = some n ∧ ot = some tm ∧ om = some mo ∧ okSer w n tm mo = true ∧ ss = serS b n mo tm.toNat := by
  match on, ot, om, h with
  | some n, some tm, some mo, h =>
    have h' : (if okSer w n tm mo = true then some (serS (decide (w = "red")) n mo tm.toNat) else none) = some ss := h
    by_cases q : okSer w n tm mo = true
    · rw [if_pos q] at h'
      have q1 : okMeet w n = true := by
        unfold okSer at q
        rw [Bool.and_eq_true, Bool.and_eq_true] at q
        exact q.1.1
      obtain ⟨b, rfl⟩ := okMeet_room q1
      exact ⟨b, n, tm, mo, rfl, rfl, rfl, rfl, q, by rw [← Option.some.inj h']; cases b <;> rfl⟩
    · rw [if_neg q] at h'
      exact nomatch h'
theorem serR_none {w : Str} {on ot om : Option Int} (h : serR w on ot om = none) : okSerO w on ot om = false := by
  match on, ot, om, h with
  | some n, some tm, some mo, h =>
    have h' : (if okSer w n tm mo = true then some (serS (decide (w = "red")) n mo tm.toNat) else none) = none := h
    by_cases q : okSer w n tm mo = true
    · rw [if_pos q] at h'
      exact nomatch h'
    · exact Bool.eq_false_iff.mpr q
  | none, _, _, _ => rfl
  | some _, none, _, _ => rfl
  | some _, some _, none, _ => rfl
theorem alt_words {r : List Str} (h : okAltO (r.map numW) = true) : altW (allN (r.map numW)) = (Str.ofString "alternate") :: r := by
  unfold altW
  congr 1
  unfold okAltO at h
  rw [Bool.and_eq_true] at h
  have h2 := List.all_eq_true.mp h.2
  rw [allN_map, List.map_map, List.map_map]
  have e : ∀ w ∈ r, ((iS ∘ (fun o : Option Int => o.getD 0)) ∘ numW) w = w := fun w hw => by
    have q := h2 (numW w) (List.mem_map.mpr ⟨w, hw, rfl⟩)
    show iS ((numW w).getD 0) = w
    cases hn : numW w with
    | none =>
      rw [hn] at q
      exact nomatch q
    | some v => exact iS_num hn
  rw [List.map_congr_left e, List.map_id']
theorem ser_words4 {w n k : Str} {vn vk : Int} (hn : numW n = some vn) (hk : numW k = some vk) : serW w vn vk 0 = [w, n, "times", k] := by
  unfold serW
  rw [if_pos rfl, iS_num hn, iS_num hk]
  rfl
theorem ser_words6 {w n k q : Str} {vn vk vq : Int} (hn : numW n = some vn) (hk : numW k = some vk) (hq : numW q = some vq) (ne : q ≠ "0") : serW w vn vk vq = [w, n, "times", k, "more", q] := by
  have z : vq ≠ 0 := fun z => ne (by rw [← iS_num hq, z]; decide +kernel)
  unfold serW
  rw [if_neg z, iS_num hn, iS_num hk, iS_num hq]
  rfl
theorem readB_cons (w : Str) (r : List Str) : readB (w :: r) = if w = "turn" ∧ r = [] then some [Stp.turn] else if w = "alternate" then altR r else
    match r with
    | [n] => meetR w (numW n)
    | [n, t, k] => if t = "times" then serR w (numW n) (numW k) (some 0) else none
    | [n, t, k, m, q] => if t = "times" ∧ m = "more" ∧ q ≠ "0" then serR w (numW n) (numW k) (numW q) else none
    | _ => none := rfl
theorem readB_turn : readB [Str.ofString "turn"] = some [Stp.turn] := by
  rw [readB_cons, if_pos ⟨rfl, rfl⟩]
theorem readB_alt (r : List Str) : readB (Str.ofString "alternate" :: r) = altR r := by
  rw [readB_cons, if_neg fun z : _ ∧ _ => absurd z.1 (by decide +kernel), if_pos rfl]
theorem readB_two {a b : Str} (h : a ≠ "alternate") : readB [a, b] = meetR a (numW b) := by
  rw [readB_cons, if_neg (fun z : _ ∧ _ => nomatch z.2)]
  exact if_neg h
theorem readB_four {a b k : Str} (h : a ≠ "alternate") : readB [a, b, Str.ofString "times", k] = serR a (numW b) (numW k) (some 0) := by
  rw [readB_cons, if_neg (fun z : _ ∧ _ => nomatch z.2)]
  exact (if_neg h).trans (if_pos rfl)
theorem readB_six {a b k q : Str} (h : a ≠ "alternate") (hq : q ≠ "0") : readB [a, b, Str.ofString "times", k, Str.ofString "more", q] = serR a (numW b) (numW k) (numW q) := by
  rw [readB_cons, if_neg (fun z : _ ∧ _ => nomatch z.2)]
  exact (if_neg h).trans (if_pos ⟨rfl, rfl, hq⟩)
theorem readB_none {ws : List Str} (h1 : ws ≠ [Str.ofString "turn"]) (h2 : ¬ ∃ r, ws = Str.ofString "alternate" :: r) (h3 : ws.length ≠ 2) (h4 : ∀ (a b k : Str), ws ≠ [a, b, Str.ofString "times", k]) (h6 : ∀ (a b k q : Str), q ≠ "0" → ws ≠ [a, b, Str.ofString "times", k, Str.ofString "more", q]) : readB ws = none := by
  cases ws with
  | nil => rfl
  | cons w r =>
    have e1 : ¬ (w = "turn" ∧ r = []) := fun z => h1 (by rw [z.1, z.2])
    have e2 : w ≠ "alternate" := fun z => h2 ⟨r, by rw [z]⟩
    rw [readB_cons, if_neg e1, if_neg e2]
    match r, h3, h4, h6 with
    | [], _, _, _ => rfl
    | [_], h3, _, _ => exact absurd rfl h3
    | [_, _], _, _, _ => rfl
    | [n, t, k], _, h4, _ => exact if_neg fun z => h4 w n k (by rw [z])
    | [_, _, _, _], _, _, _ => rfl
    | [n, t, k, m, q], _, _, h6 => exact if_neg fun z => h6 w n k q z.2.2 (by rw [z.1, z.2.1])
    | _ :: _ :: _ :: _ :: _ :: _ :: _, _, _, _ => rfl
theorem meetR_bad {w : Str} {o : Option Int} (h : okMeetO w o = false) : meetR w o = none := by
  cases o with
  | none => rfl
  | some n => exact if_neg (Bool.eq_false_iff.mp h)
theorem serR_bad {w : Str} {on ot om : Option Int} (h : okSerO w on ot om = false) : serR w on ot om = none := by
  match on, ot, om, h with
  | some n, some tm, some mo, h => exact if_neg (Bool.eq_false_iff.mp h)
  | none, _, _, _ => rfl
  | some _, none, _, _ => rfl
  | some _, some _, none, _ => rfl
theorem meetR_ok {b : Bool} {n : Int} (h : okMeet (roomS b) n = true) : meetR (roomS b) (some n) = some [Stp.meet b n] := by
  refine (if_pos h).trans ?_
  cases b <;> rfl
theorem serR_ok {b : Bool} {n tm mo : Int} (h : okSer (roomS b) n tm mo = true) : serR (roomS b) (some n) (some tm) (some mo) = some (serS b n mo tm.toNat) := by
  refine (if_pos h).trans ?_
  cases b <;> rfl
theorem len_four {α : Type} : ∀ {l : List α}, l.length = 4 → ∃ a b c d, l = [a, b, c, d]
  | [a, b, c, d], _ => ⟨a, b, c, d, rfl⟩
theorem len_six {α : Type} : ∀ {l : List α}, l.length = 6 → ∃ a b c d e f, l = [a, b, c, d, e, f]
  | [a, b, c, d, e, f], _ => ⟨a, b, c, d, e, f, rfl⟩
theorem len_two {α : Type} : ∀ {l : List α}, l.length = 2 → ∃ a b, l = [a, b]
  | [a, b], _ => ⟨a, b, rfl⟩
def BookOfN (K : PySem.W.Frag) (D : Kds) (H0 H : Hp) (x : Addr) (ws : List Str) (ss : List Stp) : Prop := BookNew K D.m H0 H x ws ss ∨ BookNew K D.s H0 H x ws ss ∨ BookNew K D.a H0 H x ws ss ∨ BookNew K D.t H0 H x ws ss
theorem BookOfN.same {K : PySem.W.Frag} {D : Kds} {H0 H H1 : Hp} {x : Addr} {ws : List Str} {ss : List Stp} (h : BookOfN K D H0 H x ws ss) (s : Same H H1) : BookOfN K D H0 H1 x ws ss := h.imp (·.same s) (·.imp (·.same s) (·.imp (·.same s) (·.same s)))
theorem BookOfN.less {K : PySem.W.Frag} {D : Kds} {H0 H H1 : Hp} {x : Addr} {ws : List Str} {ss : List Stp} (h : BookOfN K D H1 H x ws ss) (n : ∀ y, H1 y = none → H0 y = none) : BookOfN K D H0 H x ws ss := h.imp (·.less n) (·.imp (·.less n) (·.imp (·.less n) (·.less n)))
theorem BookOfN.old {K : PySem.W.Frag} {D : Kds} {H0 H : Hp} {x : Addr} {ws : List Str} {ss : List Stp} (h : BookOfN K D H0 H x ws ss) : BookOf K D H x ws ss := h.imp (·.old) (·.imp (·.old) (·.imp (·.old) (·.old)))
theorem BookNew.lst {K : PySem.W.Frag} {C l : Addr} {H0 H : Hp} {x : Addr} {ws : List Str} {ss : List Stp} {o : HO} {xs ys : List V} (h : BookNew K C H0 H x ws ss) (h0 : H0 l = some o) (hl : H l = some (.lst xs)) : BookNew K C H0 (upd H l (.lst ys)) x ws ss := by
  obtain ⟨dx, lw, bs, vs, a, b, c, d, e, f⟩ := h
  refine ⟨dx, lw, bs, vs, (upd_ne (ne_of a hl fun z => nomatch z)).trans a, (upd_ne (ne_of_none h0 e).symm).trans b, (upd_ne (ne_of_none h0 f).symm).trans c, Paired.mapP d fun _ _ z => z.fix (fix_updB hl), e, f⟩
theorem BookOfN.lst {K : PySem.W.Frag} {D : Kds} {l : Addr} {H0 H : Hp} {x : Addr} {ws : List Str} {ss : List Stp} {o : HO} {xs ys : List V} (h : BookOfN K D H0 H x ws ss) (h0 : H0 l = some o) (hl : H l = some (.lst xs)) : BookOfN K D H0 (upd H l (.lst ys)) x ws ss := h.imp (·.lst h0 hl) (·.imp (·.lst h0 hl) (·.imp (·.lst h0 hl) (·.lst h0 hl)))
end Cc

/-! a, *b = a tuple; o.m( *y). -/
namespace Cc
open PySem PySem.Spec PyProof.Rows L2
section
variable {prog : Program} {w : World} {A : Around} {E : Value → Shared → Prop} {s : Shared}
theorem star_tup {l : Addr} {items : Array Value} {i : Nat} {Q : List Value → Shared → Prop} (hh : A.handled = none) (hl : IsTup s.heap l items) (hi : i ≤ items.size) (hz : items.size ≤ 16384)
    (h : ∀ (h' : Heap) (tk : Nat), (∀ b o, s.heap.get? b = some o → h'.get? b = some o) → Q (items.toList.take i ++ [.ref h'.objs.size] ++ []) { s with heap := h'.push { cls := .type "list", data := .seq (items.toList.drop i).toArray }, toks := tk }) :
    wpAny (model prog w) A (unpackItems (.ref l) (i + 1) (some i)) Q E s := by
  have nl : l ≠ s.heap.objs.size := by obtain ⟨o, ho, _⟩ := hl; exact Nat.ne_of_lt (Heap.lt_size ho)
  unfold unpackItems
  apply wpAny_bind
  unfold notIterableAtAll
  refine wpAny_bind (wpAny_specialOf hl.typeIs slot_tuple_iter.lookup (wpAny_pure ?_))
  simp only [if_false, Bool.false_eq_true]
  refine wpAny_bind (wpAny_holding (iter_tuple hl (wpAny_bind (wpAny_holding (draw_tuple nl i 0 _ _ ⟨_, Heap.get?_push_size _ rfl, rfl, rfl⟩ (hl.push _) (by omega) fun h1 it1 sb1 => ?_)))))
  have l1 : IsTup h1 l items := (hl.push _).extBut sb1.extBut nl
  rw [Nat.zero_add] at it1
  obtain ⟨oi, hoi, _⟩ := id it1
  obtain ⟨ol, hol, _⟩ := id l1
  rw [List.drop_zero]
  have e1 : (items.toList.take i).length = i := by rw [List.length_take, Array.length_toList]; omega
  rw [if_neg (show ¬ ((items.toList.take i).length < i) by rw [e1]; omega)]
  refine wpAny_bind (wpAny_holding (PySem.W.kun_collect (s := { s with heap := h1 }) (T := "tuple_iterator") (.inr (.inr (.inr rfl))) (Walks.tuple (A := A.in1) hh s.heap.objs.size l nl items) (fun j u st => st.1.typeIs) (k := i) hi ⟨it1, l1⟩ (Heap.lt_size hoi) (Heap.lt_size hol) (fun h2 tk hk => ?_) (by rw [sizeLine_eq]; omega)))
  have e2 : (items.toList.drop i).length = items.size - i := by rw [List.length_drop, Array.length_toList]
  show wpAny _ _ (if (items.toList.drop i).length < i + 1 - 1 - i then _ else _) _ _ _
  rw [if_neg (by omega)]
  show wpAny _ _ (newList ((items.toList.drop i).take ((items.toList.drop i).length - (i + 1 - 1 - i))) >>= fun d => pure (items.toList.take i ++ [d] ++ (items.toList.drop i).drop ((items.toList.drop i).length - (i + 1 - 1 - i)))) _ _ _
  rw [show (items.toList.drop i).length - (i + 1 - 1 - i) = (items.toList.drop i).length from by omega, List.take_length, List.drop_length]
  refine wpAny_bind (wpAny_newObj_type (wpAny_pure (h h2 tk fun b o e => ?_)) ?_)
  · exact hk b o (Nat.ne_of_lt (Heap.lt_size e)) (sb1.extBut b o (Nat.ne_of_lt (Heap.lt_size e)) (Heap.get?_push_of_some _ e))
  · show (items.toList.drop i).length ≤ sizeLine
    rw [e2, sizeLine_eq]
    omega
end
section
variable {X : Cx}
/-- a, *b = .. -/
def gStar (K : PySem.W.Frag) (g1 g2 : TG) : TG := fun v σ H Q => ∃ a x xs, v = .ref a ∧ SqT K H a (x :: xs) ∧ xs.length ≤ 16000 ∧ ∀ D, H D = none → g1 x σ (upd H D (.lst xs)) fun σ1 H1 => g2 (.ref D) σ1 H1 Q
theorem pg_star1 {e1 e2 : Expr} {g1 g2 : TG} {k : Nat} {p pos : Pos} (hc : X.calm = true) (h1 : PG X e1 g1) (h2 : PG X e2 g2)
    (he : assignEach [e1, .Starred e2 p] X.env = [(false, assign e1 X.env), (true, assign e2 X.env)] := by rfl) : PG X (.Tuple [e1, .Starred e2 p] k pos) (gStar X.K g1 g2) := by
  refine ⟨fun pins s σ H v u Q I r ⟨a, x, xs, ev, hq, hl, hw⟩ => ?_⟩
  subst ev
  cases r
  obtain ⟨its, rv, ht, _⟩ := I.tuple hq
  rw [arm_assign_Tuple]
  apply wpAny_bind
  apply wpAny_standAt
  unfold unpack
  rw [he]
  cases rv with
  | cons rx rr =>
    rename_i u1 us
    have el : us.length = xs.length := rr.length.symm
    show wpAny _ _ (do let z ← holding [Value.ref a] (unpackItems (.ref a) (1 + 1) (some 1)); assignInOrder [assign e1 X.env, assign e2 X.env] z) _ _ _
    refine wpAny_bind (wpAny_holding (star_tup (items := (u1 :: us).toArray) (i := 1) (I.ok.hd hc) ht (by simp) (by simp; omega) fun h' tk keep => ?_))
    have I1 : Inv X pins σ H { s with heap := h', toks := tk } := I.kept keep
    have I2 : Inv X pins σ (upd H h'.objs.size (.lst xs)) { s with heap := h'.push { cls := .type "list", data := .seq us.toArray }, toks := tk } := by
      refine I1.laid (t' := tk) (fun b o e => Heap.get?_push_of_some _ e) (Nat.le_refl _) ⟨by rw [sizeLine_eq]; omega, us, 0, rr, ?_⟩
      exact Heap.get?_push_size h' rfl
    show wpAny _ _ (assignInOrder [assign e1 X.env, assign e2 X.env] [u1, .ref h'.objs.size]) _ _ _
    refine assignInOrder_cons (thn (h1.run pins _ σ _ x u1 _ I2 rx (hw _ (I1.hok.fresh (Nat.le_refl _)))) fun _ s3 ⟨σ3, H3, I3, q3⟩ => ?_)
    refine assignInOrder_cons (thn (h2.run pins _ σ3 _ (.ref h'.objs.size) _ _ I3 rfl q3) fun _ s4 z => assignInOrder_nil z)
/-- o.m( *y): the method, then the tuple, then the call -/
theorem starcall1 {M : Model} {A : Around} {E : Value → Shared → Prop} {s : Shared} {env : Env} {o e2 : Expr} {m : Str} {p apos pos : Pos} {Q : Value → Shared → Prop} (hb : attributeBase o m env (eval o env) = eval o env) (hst : starEach [.Starred e2 p] env = [(true, eval e2 env)])
    (k : wpAny M A (eval o env) (fun ov z => wpAny M A (getAttr ov m true) (fun f z2 => wpAny M A (callWith pos f [] (backTo pos [(true, eval e2 env)]) []) Q E z2) E z) E s) : wpAny M A (eval (.Call (.Attribute o m apos) [.Starred e2 p] [] pos) env) Q E s := by
  rw [arm_eval_Call, hb, hst, show backToKw pos (keywordEach [] env) = [] from rfl]
  refine wpAny_bind (wpAny_mono k (fun ov z got => wpAny_bind (wpAny_standAt ?_)) fun _ _ => id)
  unfold methodCall
  rw [show methodCallForm ([Expr.Starred e2 p].length + ([] : List Keyword).length) (backTo pos [(true, eval e2 env)]) [] = false from rfl, show methodCallPos false o env apos pos = pure pos from rfl, show calleeOf false o env ov m = (getAttr ov m true >>= fun v => pure (v, [])) from rfl]
  exact wpAny_bind (wpAny_holding (wpAny_bind (wpAny_mono got (fun _ _ call => wpAny_pure (wpAny_bind (wpAny_pure call))) fun _ _ => id)))
def tMethS1 (K : PySem.W.Frag) (C : Addr) (m : Str) (g : Addr) (sp : Sp) (E : XK) (ta t2 : TE) : TE := fun σ H Q => ta σ H fun x H1 => ∃ a dx fs, x = .ref a ∧ H1 a = some (.ins C dx fs) ∧ fs.lookup m = none ∧
  ∀ q, H1 q = none → t2 σ (upd H1 q (.met g a)) fun y2 H3 => ∃ b vs, y2 = .ref b ∧ (SqT K H3 b vs ∨ SqL K H3 b vs) ∧ H3 q = some (.met g a) ∧ sp (.ref a :: vs) H3 Q E
theorem pe_methS1 {CX : CXT} {k : Nat} {C g : Addr} {m : Str} {sp : Sp} {E : XK} {o e2 : Expr} {ta t2 : TE} {p apos pos : Pos} (he : PE X o ta) (c : Cls X.K C) (b : BMeth X.K C m g) (F : FnR X.prog X.w X.K X.mg X.base CX k g sp) (hr : Room k X.A)
    (hx : Passes CX X E) (h2 : PE X e2 t2) (hb : attributeBase o m X.env (eval o X.env) = eval o X.env := by rfl)
    (hst : starEach [.Starred e2 p] X.env = [(true, eval e2 X.env)] := by rfl) : PE X (.Call (.Attribute o m apos) [.Starred e2 p] [] pos) (tMethS1 X.K C m g sp E ta t2) := by
  refine ⟨fun pins s σ H Q I h => ?_⟩
  refine starcall1 hb hst (thn (he.run pins s σ H _ I h) fun u s1 ⟨x, H1, I1, rx, a, dx, fs, ex, ea, l, q⟩ => ?_)
  subst ex
  obtain rfl : u = Value.ref a := rx
  refine getbound_ok I1 ea c b l fun q1 s2 hq1 I2 => PySem.W.ks_call (P := PySem.W.MethP X.K q1 g (.ref a)) rfl (PySem.W.keeps_M b.fi) (PySem.W.ks_lone (thn (h2.run pins s2 σ _ _ I2 (q q1 hq1)) fun v2 s4 ⟨y2, H3, I4, ry2, t, vs, ey, ht, hm, hsp⟩ => ?_))
  subst ey
  cases (show v2 = Value.ref t from ry2)
  refine StX.star_any I4 ht fun us s5 I5 rv => ?_
  show PySem.W.MethP X.K q1 g (.ref a) s5.heap ∧ wpAny (model X.prog X.w) X.A (call (.ref q1) ([] ++ us) []) (EP X pins σ Q) X.xe s5
  rw [List.nil_append]
  exact ⟨met_P I5 hm, wpAny_call (PySem.W.method_call (met_P I5 hm).1 (run_fnR (us := Value.ref a :: us) (vs := V.ref a :: vs) F hr hx I5 (.cons rfl rv) hsp))⟩
end
end Cc

set_option maxHeartbeats 2000000
/-! match over a list of texts: items that are literals or names, a star behind one literal, guards. -/
namespace Cc
open PySem PySem.Spec PyProof.Rows L2
/-- an item of a pattern: a literal; a name, by its slot -/
inductive PIt where
  | lit (x : Str)
  | nm (i : Nat)
structure IsNm (X : Cx) (i : Nat) (n : Str) : Prop where
  at_ : X.N[i]? = some n
  loc : Loc X.env.scope n
  own : X.fn n = true ∨ X.env.scope.names.lookup n = some .local
inductive PItem (X : Cx) : Pattern → PIt → Prop where
  | lit {x : Str} {j : Nat} {p q : Pos} : PItem X (.MatchValue (.Constant (.str x) j p) q) (.lit x)
  | nm {i : Nat} {n : Str} {p : Pos} (h : IsNm X i n) : PItem X (.MatchAs none (some n) p) (.nm i)
def fitsP : List PIt → List Str → Bool
  | [], [] => true
  | .lit x :: ps, w :: ws => decide (w = x) && fitsP ps ws
  | .nm _ :: ps, _ :: ws => fitsP ps ws
  | _, _ => false
def pairsP : List PIt → List Str → List (Nat × V)
  | .lit _ :: ps, _ :: ws => pairsP ps ws
  | .nm i :: ps, w :: ws => (i, .str w) :: pairsP ps ws
  | _, _ => []
def setAll : List (Nat × V) → L2.St → L2.St
  | [], σ => σ
  | (i, v) :: r, σ => setAll r (σ.set i (some v))
inductive BS (X : Cx) : List (Nat × V) → List (Str × Value) → Prop where
  | nil : BS X [] []
  | cons {i : Nat} {n : Str} {v : V} {u : Value} {r : List (Nat × V)} {bs : List (Str × Value)} (h : IsNm X i n) (rv : RelV v u) (t : BS X r bs) : BS X ((i, v) :: r) ((n, u) :: bs)
section
variable {X : Cx} {pins : List (Addr × Obj)}
theorem bs_ok {Q : Unit → Shared → Prop} (hN : X.N.Nodup) : ∀ {prs : List (Nat × V)} {bs : List (Str × Value)} {σ : L2.St} {H : Hp} {s : Shared}, BS X prs bs → Inv X pins σ H s → (∀ s', Inv X pins (setAll prs σ) H s' → Q () s') →
    wpAny (model X.prog X.w) X.A (assignInOrder (bs.map fun (n, _) => bindName X.env n) (bs.map (·.2))) Q X.xe s
  | [], _, σ, H, s, .nil, I, k => wpAny_assignInOrder_none (k s I)
  | (i, v) :: r, _, σ, H, s, .cons (n := n) (u := u) (bs := bs) h rv t, I, k => by
    refine wpAny_assignInOrder_more (wpAny_bindName (store_ok I hN h.at_ h.loc rv (fun s' I' => ?_) h.own))
    exact bs_ok hN t I' k
theorem item_ok {p : Pattern} {it : PIt} {w : Str} {u : Value} {σ : L2.St} {H : Hp} {s : Shared} {Q : Option (List (Str × Value)) → Shared → Prop} (hp : PItem X p it) (ru : RelV (.str w) u) (I : Inv X pins σ H s)
    (k1 : fitsP [it] [w] = true → ∀ s' bs, Inv X pins σ H s' → BS X (pairsP [it] [w]) bs → Q (some bs) s') (k2 : fitsP [it] [w] = false → ∀ s', Inv X pins σ H s' → Q none s') :
    wpAny (model X.prog X.w) X.A (matchPattern p X.env u) Q X.xe s := by
  obtain ⟨t, rfl⟩ := ru
  cases hp with
  | @lit x j p q =>
    refine wpAny_matchPattern_Value (Calls.Constant_str (eq_str (wpAny_truthy_bool ?_)))
    have e : fitsP [.lit x] [w] = decide (w = x) := by simp [fitsP]
    rw [e] at k1 k2
    by_cases z : w = x
    · rw [if_pos (beq_iff_eq.mpr z)]
      exact k1 (decide_eq_true z) _ _ (I.tok _) .nil
    · rw [if_neg fun y => z (beq_iff_eq.mp y)]
      exact k2 (decide_eq_false z) _ (I.tok _)
  | @nm i n p h =>
    exact wpAny_matchPattern_Capture (k1 (by simp [fitsP]) _ _ I (.cons h ⟨t, rfl⟩ .nil))
theorem BS.append {a b : List (Nat × V)} {x y : List (Str × Value)} (h : BS X a x) (g : BS X b y) : BS X (a ++ b) (x ++ y) := by
  induction h with
  | nil => exact g
  | cons h rv t ih => exact .cons h rv ih
theorem fits_cons {it : PIt} {its : List PIt} {w : Str} {ws : List Str} : fitsP (it :: its) (w :: ws) = (fitsP [it] [w] && fitsP its ws) := by
  cases it <;> simp [fitsP]
theorem pairs_cons {it : PIt} {its : List PIt} {w : Str} {ws : List Str} : pairsP (it :: its) (w :: ws) = pairsP [it] [w] ++ pairsP its ws := by
  cases it <;> simp [pairsP]
theorem each_ok {Q : Option (List (Str × Value)) → Shared → Prop} {σ : L2.St} {H : Hp} {ps : List Pattern} {its : List PIt} (h : Paired (PItem X) ps its) : ∀ {ws : List Str} {us : List Value} {s : Shared}, Vals (ws.map V.str) us → ws.length = its.length → Inv X pins σ H s →
    (fitsP its ws = true → ∀ s' bs, Inv X pins σ H s' → BS X (pairsP its ws) bs → Q (some bs) s') → (fitsP its ws = false → ∀ s', Inv X pins σ H s' → Q none s') →
    wpAny (model X.prog X.w) X.A (matchEach ps X.env us) Q X.xe s := by
  induction h generalizing Q with
  | nil =>
    intro ws us s rv hl I k1 _
    obtain rfl : ws = [] := List.eq_nil_of_length_eq_zero hl
    exact wpAny_matchEach_nil (k1 rfl s [] I .nil)
  | @cons p it ps its hp hps ih =>
    intro ws us s rv hl I k1 k2
    obtain ⟨w, r, rfl⟩ : ∃ w r, ws = w :: r := by
      cases ws with
      | nil => exact nomatch hl
      | cons w r => exact ⟨w, r, rfl⟩
    obtain ⟨u, ur, rfl⟩ : ∃ u ur, us = u :: ur := by
      cases us with
      | nil => exact nomatch rv.length
      | cons u ur => exact ⟨u, ur, rfl⟩
    have ru : RelV (.str w) u := by cases rv with | cons a b => exact a
    have rr : Vals (r.map V.str) ur := by cases rv with | cons a b => exact b
    rw [fits_cons, pairs_cons] at k1
    rw [fits_cons] at k2
    refine wpAny_matchEach_cons (item_ok hp ru I (fun f1 s1 b1 I1 B1 => ?_) (fun f1 s1 I1 => k2 (by rw [f1]; rfl) s1 I1)) (by cases hp <;> rfl)
    refine ih rr (Nat.succ.inj hl) I1 (fun f2 s2 b2 I2 B2 => k1 (by rw [f1, f2]; rfl) s2 _ I2 (B1.append B2)) (fun f2 s2 I2 => k2 (by rw [f1, f2]; rfl) s2 I2)
/-- what the cases come to, by the list and its texts -/
abbrev TC := Addr → List Str → TS
structure PCs (X : Cx) (cs : List MatchCase) (t : TC) : Prop where
  run : ∀ (pins : List (Addr × Obj)) (s : Shared) (σ : L2.St) (H : Hp) (D : Ends) (a : Addr) (ws : List Str) (first : Bool), Inv X pins σ H s → H a = some (.lst (ws.map V.str)) → ws.length ≤ 16000 → t a ws D σ H →
    wpAny (model X.prog X.w) X.A (matchCases cs X.env (.ref a) first) (SP X pins D) X.xe s
def cNil : TC := fun _ _ D σ H => D.nx σ H
theorem pcs_nil : PCs X [] cNil := ⟨fun _ s σ H _ _ _ _ I _ _ h => wpAny_matchCases_nil ⟨σ, H, I, h⟩⟩
def cSeq (its : List PIt) (tb : TS) (tr : TC) : TC := fun a ws D σ H => (fitsP its ws = true → tb D (setAll (pairsP its ws) σ) H) ∧ (fitsP its ws = false → tr a ws D σ H)
def cSeqG (its : List PIt) (tg : TT) (tb : TS) (tr : TC) : TC := fun a ws D σ H => (fitsP its ws = true → tg (setAll (pairsP its ws) σ) H fun b H' => (b = true → tb D (setAll (pairsP its ws) σ) H') ∧ (b = false → H' a = some (.lst (ws.map V.str)) ∧ tr a ws D (setAll (pairsP its ws) σ) H')) ∧ (fitsP its ws = false → tr a ws D σ H)
def cStar (x : Str) (i : Nat) (tb : TS) (tr : TC) : TC := fun a ws D σ H => (∀ r, ws = x :: r → ∀ q, H q = none → tb D (σ.set i (some (.ref q))) (upd H q (.lst (r.map V.str)))) ∧ (¬ (∃ r, ws = x :: r) → tr a ws D σ H)
theorem fits_len : ∀ {its : List PIt} {ws : List Str}, fitsP its ws = true → ws.length = its.length
  | [], [], _ => rfl
  | .lit x :: ps, w :: ws, h => by
    rw [fitsP, Bool.and_eq_true] at h
    rw [List.length_cons, List.length_cons, fits_len h.2]
  | .nm i :: ps, w :: ws, h => by
    rw [List.length_cons, List.length_cons, fits_len (its := ps) (ws := ws) h]
  | [], _ :: _, h => absurd h (by simp [fitsP])
  | .lit x :: ps, [], h => absurd h (by simp [fitsP])
  | .nm i :: ps, [], h => absurd h (by simp [fitsP])
theorem plain_items {ps : List Pattern} {its : List PIt} (h : Paired (PItem X) ps its) : ps.findIdx? (·.isStar) = none := by
  rw [List.findIdx?_eq_none_iff]
  induction h with
  | nil => exact fun x hx => nomatch hx
  | cons a _ ih =>
    intro x hx
    rcases List.mem_cons.mp hx with z | z
    · subst z
      cases a <;> rfl
    · exact ih x z
/-- the sequence pattern, whatever comes of it -/
theorem seq_ok {ps : List Pattern} {its : List PIt} {pos : Pos} {σ : L2.St} {H : Hp} {s : Shared} {a : Addr} {ws : List Str} {Q : Option (List (Str × Value)) → Shared → Prop} (hc : X.calm = true) (hp : Paired (PItem X) ps its) (hw : (ps.all fun p => p.isWildcard || (p.isStar && p.names.isEmpty)) = false)
    (I : Inv X pins σ H s) (e : H a = some (.lst (ws.map V.str))) (hz : ws.length ≤ 16000)
    (k1 : fitsP its ws = true → ∀ s' bs, Inv X pins σ H s' → BS X (pairsP its ws) bs → Q (some bs) s') (k2 : fitsP its ws = false → ∀ s', Inv X pins σ H s' → Q none s') :
    wpAny (model X.prog X.w) X.A (matchPattern (.MatchSequence ps pos) X.env (.ref a)) Q X.xe s := by
  obtain ⟨_, its', n, rv, ea⟩ := (show ObjOk X.prog X.w H s.heap a (.lst (ws.map V.str)) from I.hok a _ e)
  have hl : s.heap.IsList a its'.toArray := ⟨_, ea, rfl, n, rfl⟩
  have el : its'.toArray.size = ws.length := by rw [List.size_toArray, ← rv.length, List.length_map]
  refine wpAny_matchPattern_Sequence (wpAny_collectionFlag hl.typeIs flag_seq_list ?_) (plain_items hp) hw
  rw [if_pos rfl]
  refine pyLen_list hl (by rw [el]; omega) ?_
  have lp : ps.length = its.length := hp.length
  by_cases z : ws.length = ps.length
  · rw [if_neg (by rw [el]; simp [z])]
    have ez : ps.length = its'.toArray.size := by rw [el, z]
    rw [ez]
    refine PySem.W.kun_itemsOf (I.ok.hd hc) hl fun h' he => ?_
    exact each_ok hp (by simpa using rv) (by omega) (I.kept (t' := _) fun b u q => he b u (Nat.ne_of_lt (Heap.lt_size q)) q) k1 k2
  · rw [if_pos (by rw [el]; simpa using fun y => z (by omega))]
    refine k2 (Bool.eq_false_iff.mpr fun y => z (by rw [fits_len y, lp])) _ (I.tok _)
theorem pcs_seq {ps : List Pattern} {its : List PIt} {pos : Pos} {body : List Stmt} {rest : List MatchCase} {tb : TS} {tr : TC} (hc : X.calm = true) (hN : X.N.Nodup) (hp : Paired (PItem X) ps its) (hb : PSs X body tb) (hr : PCs X rest tr)
    (hw : (ps.all fun p => p.isWildcard || (p.isStar && p.names.isEmpty)) = false := by rfl) : PCs X (⟨.MatchSequence ps pos, none, body⟩ :: rest) (cSeq its tb tr) := by
  refine ⟨fun pins s σ H D a ws first I e hz h => ?_⟩
  refine wpAny_matchCases_cons (seq_ok hc hp hw I e hz (fun f s1 bs I1 B => ?_) (fun f s1 I1 => hr.run pins s1 σ H D a ws false I1 e hz (h.2 f)))
  exact bs_ok hN B I1 fun s2 I2 => hb.run pins s2 _ H D I2 (h.1 f)
theorem pcs_seqG {ps : List Pattern} {its : List PIt} {pos : Pos} {g : Expr} {body : List Stmt} {rest : List MatchCase} {tg : TT} {tb : TS} {tr : TC} (hc : X.calm = true) (hN : X.N.Nodup) (hp : Paired (PItem X) ps its) (hg : PT X g tg) (hb : PSs X body tb) (hr : PCs X rest tr)
    (hw : (ps.all fun p => p.isWildcard || (p.isStar && p.names.isEmpty)) = false := by rfl) : PCs X (⟨.MatchSequence ps pos, some g, body⟩ :: rest) (cSeqG its tg tb tr) := by
  refine ⟨fun pins s σ H D a ws first I e hz h => ?_⟩
  refine wpAny_matchCases_cons (seq_ok hc hp hw I e hz (fun f s1 bs I1 B => ?_) (fun f s1 I1 => hr.run pins s1 σ H D a ws false I1 e hz (h.2 f)))
  refine bs_ok hN B I1 fun s2 I2 => thn (hg.run pins s2 _ H _ I2 (h.1 f)) fun b s3 ⟨H3, I3, q1, q2⟩ => ?_
  cases b with
  | true => exact hb.run pins s3 _ H3 D I3 (q1 rfl)
  | false => exact hr.run pins s3 _ H3 D a ws false I3 (q2 rfl).1 hz (q2 rfl).2
theorem star_lst {l : Addr} {items : Array Value} {s : Shared} {A : Around} {E : Value → Shared → Prop} {i : Nat} {prog : Program} {w : World} {Q : List Value → Shared → Prop} (hh : A.handled = none) (hl : s.heap.IsList l items) (hi : i ≤ items.size) (hz : items.size ≤ 16384)
    (h : ∀ (h' : Heap) (tk : Nat), (∀ b o, s.heap.get? b = some o → h'.get? b = some o) → Q (items.toList.take i ++ [.ref h'.objs.size] ++ []) { s with heap := h'.push { cls := .type "list", data := .seq (items.toList.drop i).toArray }, toks := tk }) :
    wpAny (model prog w) A (unpackItems (.ref l) (i + 1) (some i)) Q E s := by
  have nl : l ≠ s.heap.objs.size := by obtain ⟨o, ho, _⟩ := hl; exact Nat.ne_of_lt (Heap.lt_size ho)
  unfold unpackItems
  apply wpAny_bind
  unfold notIterableAtAll
  refine wpAny_bind (wpAny_specialOf hl.typeIs slot_list_iter.lookup (wpAny_pure ?_))
  simp only [if_false, Bool.false_eq_true]
  refine wpAny_bind (wpAny_holding (wpAny_pyIter_list hl (wpAny_bind (wpAny_holding (PySem.W.kun_draw nl i 0 _ _ ⟨_, Heap.get?_push_size _ rfl, rfl, rfl⟩ (hl.push _) (by omega) fun h1 it1 sb1 => ?_)))))
  have l1 : h1.IsList l items := (hl.push _).extBut sb1.extBut nl
  rw [Nat.zero_add] at it1
  obtain ⟨oi, hoi, _⟩ := id it1
  obtain ⟨ol, hol, _⟩ := id l1
  rw [List.drop_zero]
  have e1 : (items.toList.take i).length = i := by rw [List.length_take, Array.length_toList]; omega
  rw [if_neg (show ¬ ((items.toList.take i).length < i) by rw [e1]; omega)]
  refine wpAny_bind (wpAny_holding (PySem.W.kun_collect (s := { s with heap := h1 }) (T := "list_iterator") (.inr (.inr (.inl rfl))) (Walks.list (A := A.in1) hh s.heap.objs.size l nl items) (fun j u st => st.1.typeIs) (k := i) hi ⟨it1, l1⟩ (Heap.lt_size hoi) (Heap.lt_size hol) (fun h2 tk hk => ?_) (by rw [sizeLine_eq]; omega)))
  have e2 : (items.toList.drop i).length = items.size - i := by rw [List.length_drop, Array.length_toList]
  show wpAny _ _ (if (items.toList.drop i).length < i + 1 - 1 - i then _ else _) _ _ _
  rw [if_neg (by omega)]
  show wpAny _ _ (newList ((items.toList.drop i).take ((items.toList.drop i).length - (i + 1 - 1 - i))) >>= fun d => pure (items.toList.take i ++ [d] ++ (items.toList.drop i).drop ((items.toList.drop i).length - (i + 1 - 1 - i)))) _ _ _
  rw [show (items.toList.drop i).length - (i + 1 - 1 - i) = (items.toList.drop i).length from by omega, List.take_length, List.drop_length]
  refine wpAny_bind (wpAny_newObj_type (wpAny_pure (h h2 tk fun b o e => ?_)) ?_)
  · exact hk b o (Nat.ne_of_lt (Heap.lt_size e)) (sb1.extBut b o (Nat.ne_of_lt (Heap.lt_size e)) (Heap.get?_push_of_some _ e))
  · show (items.toList.drop i).length ≤ sizeLine
    rw [e2, sizeLine_eq]
    omega
theorem pcs_star {p q pos p2 : Pos} {x n : Str} {j i : Nat} {body : List Stmt} {rest : List MatchCase} {tb : TS} {tr : TC} (hc : X.calm = true) (hN : X.N.Nodup) (hn : IsNm X i n) (hb : PSs X body tb) (hr : PCs X rest tr) :
    PCs X (⟨.MatchSequence [.MatchValue (.Constant (.str x) j p) q, .MatchStar (some n) p2] pos, none, body⟩ :: rest) (cStar x i tb tr) := by
  refine ⟨fun pins s σ H D a ws first I e hz h => ?_⟩
  obtain ⟨_, its', m, rv, ea⟩ := (show ObjOk X.prog X.w H s.heap a (.lst (ws.map V.str)) from I.hok a _ e)
  have hl : s.heap.IsList a its'.toArray := ⟨_, ea, rfl, m, rfl⟩
  have el : its'.toArray.size = ws.length := by rw [List.size_toArray, ← rv.length, List.length_map]
  refine wpAny_matchCases_cons ?_
  cases ws with
  | nil =>
    refine PySem.W.kun_fewL (i := 1) hl (by rw [el]; show ((0 : Nat) : Int) < _; decide) rfl (by simp) (by rw [el]; simp) ?_
    exact hr.run pins _ σ H D a [] false (I.tok _) e hz (h.2 fun ⟨r, z⟩ => nomatch z)
  | cons w r =>
    cases rv with
    | @cons _ u _ us ru rr =>
      refine PySem.W.kun_seqL (i := 1) hl (by rw [el]; simp at hz ⊢; omega) rfl rfl rfl (by simp) (by rw [el]; simp) ?_
      refine star_lst (items := (u :: us).toArray) (i := 1) (I.ok.hd hc) (s := { s with toks := s.toks + 1 + 1 }) hl (by simp) (by have := el; simp at hz this ⊢; omega) fun h' tk keep => ?_
      have I1 : Inv X pins σ H { s with heap := h', toks := tk } := I.kept keep
      have fr : H h'.objs.size = none := I1.hok.fresh (Nat.le_refl _)
      have I2 : Inv X pins σ (upd H h'.objs.size (.lst (r.map V.str))) { s with heap := h'.push { cls := .type "list", data := .seq us.toArray }, toks := tk } := by
        refine I1.laid (t' := tk) (fun b o e => Heap.get?_push_of_some _ e) (Nat.le_refl _) ⟨by rw [List.length_map, sizeLine_eq]; simp at hz; omega, us, 0, rr, ?_⟩
        exact Heap.get?_push_size h' rfl
      have I3 : Inv X pins σ H { s with heap := h'.push { cls := .type "list", data := .seq us.toArray }, toks := tk } := I1.kept fun b o e => Heap.get?_push_of_some _ e
      show wpAny _ _ (matchEach [.MatchValue (.Constant (.str x) j p) q, .MatchStar (some n) p2] X.env [u, .ref h'.objs.size]) _ _ _
      have key : ∀ s', Inv X pins σ (upd H h'.objs.size (.lst (r.map V.str))) s' ∧ Inv X pins σ H s' → True := fun _ _ => trivial
      obtain ⟨t, rfl⟩ := ru
      refine wpAny_matchEach_cons (wpAny_matchPattern_Value (Calls.Constant_str (eq_str (wpAny_truthy_bool ?_)))) rfl
      by_cases z : w = x
      · subst z
        rw [if_pos (beq_iff_eq.mpr rfl)]
        refine PySem.W.kun_each (wpAny_matchEach_nil ?_)
        refine bs_ok (prs := [(i, .ref h'.objs.size)]) hN (.cons hn rfl .nil) (I2.tok _) fun s' I' => ?_
        exact hb.run pins s' _ _ D I' (h.1 r rfl _ fr)
      · rw [if_neg fun y => z (beq_iff_eq.mp y)]
        exact hr.run pins _ σ H D a (w :: r) false (I3.tok _) e hz (h.2 fun ⟨r', y⟩ => z (by injection y))
/-- match NAME: .. -/
def tMatch (te : TE) (tc : TC) : TS := fun D σ H => te σ H fun v H1 => ∃ a ws, v = .ref a ∧ H1 a = some (.lst (ws.map V.str)) ∧ ws.length ≤ 16000 ∧ tc a ws D σ H1
theorem ps_match {e : Expr} {cs : List MatchCase} {pos : Pos} {te : TE} {tc : TC} (he : PE X e te) (hc : PCs X cs tc) : PS X (.Match e cs pos) (tMatch te tc) := by
  refine ⟨fun pins s σ H D I h => ?_⟩
  refine wpAny_Match (thn (he.run pins s σ H _ I h) fun u s1 ⟨v, H1, I1, rv, a, ws, ev, ea, hz, q⟩ => ?_)
  subst ev
  cases (show u = Value.ref a from rv)
  exact hc.run pins s1 σ H1 D a ws true I1 ea hz q
end
end Cc

/-! x(e, .., k = v), x a local that holds a class. -/
namespace Cc
open PySem PySem.Spec PyProof.Rows L2
section
variable {X : Cx} {CX : CXT} {k n : Nat} {f C : Addr} {fd : FuncData} {ps ks : List Str} {sp : Sp} {E : XK} {x : Str} {p pos : Pos} {e : Expr} {es : List Expr} {kws : List Keyword} {t tk : TA} {tx : TE} {g : List Value → List Value → List Value} {gV : List V → List V → List V}
def tMakeKL (tx : TE) (C : Addr) (n m : Nat) (sp : Sp) (gV : List V → List V → List V) (E : XK) (t tk : TA) : TE := fun σ H Q => tx σ H fun y H1 => y = .ref C ∧ tMakeK C n m sp gV E t tk σ H1 Q
theorem pe_makeKL (hv : PE X (.Name x p) tx) (M : Mk X.K C f) (F : FnOk X.prog X.w X.K X.mg X.base CX k f fd ps sp) (hr : Room (k + 1) X.A) (hb : KBn X.K fd ps (n + 1) ks g gV) (hx : Passes CX X E) (ha : PA X (e :: es) t) (hkw : PK X kws tk)
    (hall : (backToKw pos (keywordEach kws X.env)).all (·.1.isSome) = true := by rfl) (hks : (backToKw pos (keywordEach kws X.env)).filterMap (·.1) = ks := by rfl)
    (he : starEach (e :: es) X.env = (false, eval e X.env) :: starEach es X.env := by rfl) (hpl : ((backTo pos (starEach (e :: es) X.env)).any (·.1) || (backToKw pos (keywordEach kws X.env)).any (·.1.isNone)) = false := by rfl) : PE X (.Call (.Name x p) (e :: es) kws pos) (tMakeKL tx C n ks.length sp gV E t tk) := by
  refine ⟨fun pins s σ H Q I h => ?_⟩
  refine wpAny_Call_Name_kw (thn (hv.run pins s σ H _ I h) fun u s0 ⟨y, H0, I0, r0, ey, q0⟩ => ?_)
  subst ey
  obtain rfl : u = Value.ref C := r0
  refine PySem.W.callWith_KW (h₀ := X.base) I0.ok.mod.kin M.kp hall (thn (ha.run pos pins s0 σ H0 _ I0 q0) fun us s1 ⟨vs, H1, I1, r, q⟩ => ?_) hpl he
  refine thn (hkw.run pos pins s1 σ H1 _ I1 q) fun ws s2 ⟨zs, H2, I2, rz, l1, l2, q2⟩ => ⟨I2.kIn, ?_⟩; rw [hks]; exact run_makeK M F hr hb hx I2 r rz l1 l2 q2
end
end Cc

/-! The booking of a line. -/
namespace Cc
open PySem PySem.Spec PyProof.Rows L2 TL
def spBookIn (K : PySem.W.Frag) (D : Kds) (EB : Addr) : Sp := fun vs H Q E => ∃ (l : Addr) (ws : List Str), vs = [.ref l] ∧ H l = some (.lst (ws.map V.str)) ∧ ws.length ≤ 1000 ∧ (∀ w ∈ ws, WordOk w) ∧
  (∀ ss, readB ws = some ss → ∀ x H', Same H H' → H x = none → BookOfN K D H H' x ws ss → Q (.ref x) H') ∧ (readB ws = none → ∀ H', Same H H' → E (.ref EB) none H')
section
variable {P : Program} {w : World} {K : PySem.W.Frag} {mg : Str → Option Value} {base : Heap} {C EB TU pS gS : Addr} {mc : Value} {D : Kds} {fdS : FuncData} {g1 g2 : List Value → List Value → List Value}
abbrev s_booking_in : Stmt := top 35
abbrev n_booking_in : List Str := ["words", "rest", "needs", "room", "need", "times", "more", "word"]
theorem sc_booking_in : FnScope n_booking_in ["words"] (defScope s_booking_in) := ⟨rfl, rfl, rfl, by decide +kernel, rfl, by decide +kernel, by decide +kernel⟩
theorem okn_booking_in {f f_integer_in ft fa fm fs : Addr} {fd : FuncData} (F : Fun K "booking_in" "booking_in" s_booking_in f fd) (D_integer_in : Dn P w K mg base 1 "integer_in" f_integer_in spIntIn) (XB : Err K mg "InvalidBooking" EB) (Mt : Mk K D.t ft) (Gt : FnR P w K mg base (L2N.CX P w) 3 ft (spTurnInitN K D.t)) (at_t : mg "Turning" = some (.ref D.t)) (Ma : Mk K D.a fa) (Ga : FnR P w K mg base (L2N.CX P w) 5 fa (fun vs H Q E => ∃ ws rest, vs = ws ++ rest ∧ ws.length = 1 ∧ rest.length ≤ sizeLine ∧ ∀ p, H p = Option.none → spAltInitO K D.a EB (ws ++ [V.ref p]) (upd H p (.tup rest)) Q E)) (at_a : mg "Alternation" = some (.ref D.a)) (Mm : Mk K D.m fm) (Gm : FnR P w K mg base (L2N.CX P w) 3 fm (spMeetInitO D.m EB)) (at_m : mg "Meeting" = some (.ref D.m)) (Ms : Mk K D.s fs) (Gs : FnOk P w K mg base (L2N.CX P w) 5 fs fdS ["self", "room", "need", "times", "more"] (spSerInitO K D.s EB)) (at_s : mg "Series" = some (.ref D.s)) (k1 : KBn K fdS ["self", "room", "need", "times", "more"] 3 ["times"] g1 (fun vs zs => vs ++ (zs ++ [.int 0]))) (k2 : KBn K fdS ["self", "room", "need", "times", "more"] 3 ["times", "more"] g2 (fun vs zs => vs ++ zs)) : FnOk P w K mg base (L2N.CX P w) 7 f fd ["words"] (spBookIn K D EB) := by
  refine Fun_okN F sc_booking_in (fun vs H Q E h => ?_) (fun cdv A outer s H vs Q E hr h => ?_)
  · obtain ⟨l, ws, rfl, _⟩ := h
    rfl
  · obtain ⟨l, ws, rfl, hl, hn, hw, k1', k2'⟩ := h
    obtain ⟨bmB, Bn, newId, initId, XB_F, XB_q⟩ := XB.ex
    refine ⟨_, pss_cons (ps_match (pv 0) (pcs_seq rfl sc_booking_in.nd (.cons .lit .nil) 
        (pss_one (ps_ret (pe_makeR0 Mt Gt (hr.mono (by decide)) rfl at_t (L2N.passes_call (L2N.takes_of rfl rfl rfl rfl) fun _ _ _ _ h => h))))
        (pcs_star rfl sc_booking_in.nd (⟨rfl, (.inl rfl), .inr rfl⟩ : IsNm _ 1 _) 
        (pss_cons (ps_setLc (i := 2) (own := [("word", 7)]) (g := gName 7) (tt := tYes) (te := (fun σ H Q => (tCons (tVar 7) tNil) σ H fun vs H1 => spIntIn vs H1 Q E0)) rfl sc_booking_in.nd rfl rfl (sw_true rfl rfl rfl (by decide +kernel)) (pi_list (pv 1)) (blkOk_by (N := n_booking_in) (sc := defScope s_booking_in) (by decide +kernel)) (fun _ _ _ _ _ => pg_name (i := 7) sc_booking_in.nd rfl (.inl rfl)) (fun _ _ _ _ _ => by exact pts_nil) (fun _ _ _ _ _ => by exact (pe_callR D_integer_in.ok (hr.mono (by decide)) rfl D_integer_in.at_ D_integer_in.kp pass0 (pa_cons (pv 7) pa_nil))))
        (pss_one (ps_ret (pe_makeS (Ez := E) Ma Ga (hr.mono (by decide)) rfl at_a (L2N.passes_call (L2N.takes_of rfl rfl rfl rfl) fun _ _ _ _ h => h) (pv 2)))))
        (pcs_seq rfl sc_booking_in.nd (.cons (.nm (⟨rfl, (.inl rfl), .inr rfl⟩ : IsNm _ 3 _)) (.cons (.nm (⟨rfl, (.inl rfl), .inr rfl⟩ : IsNm _ 4 _)) .nil)) 
        (pss_one (ps_ret (StX.pe_makeR Mm Gm (hr.mono (by decide)) rfl at_m (L2N.passes_call (L2N.takes_of rfl rfl rfl rfl) fun _ _ _ _ h => h) (pa_cons (pv 3) (pa_cons (pe_callR D_integer_in.ok (hr.mono (by decide)) rfl D_integer_in.at_ D_integer_in.kp pass0 (pa_cons (pv 4) pa_nil)) pa_nil)))))
        (pcs_seq rfl sc_booking_in.nd (.cons (.nm (⟨rfl, (.inl rfl), .inr rfl⟩ : IsNm _ 3 _)) (.cons (.nm (⟨rfl, (.inl rfl), .inr rfl⟩ : IsNm _ 4 _)) (.cons .lit (.cons (.nm (⟨rfl, (.inl rfl), .inr rfl⟩ : IsNm _ 5 _)) .nil)))) 
        (pss_one (ps_ret (pe_makeK Ms Gs (hr.mono (by decide)) rfl at_s k1 (L2N.passes_call (L2N.takes_of rfl rfl rfl rfl) fun _ _ _ _ h => h) (pa_cons (pv 3) (pa_cons (pe_callR D_integer_in.ok (hr.mono (by decide)) rfl D_integer_in.at_ D_integer_in.kp pass0 (pa_cons (pv 4) pa_nil)) pa_nil)) (pk_cons (pe_callR D_integer_in.ok (hr.mono (by decide)) rfl D_integer_in.at_ D_integer_in.kp pass0 (pa_cons (pv 5) pa_nil)) pk_nil))))
        (pcs_seqG rfl sc_booking_in.nd (.cons (.nm (⟨rfl, (.inl rfl), .inr rfl⟩ : IsNm _ 3 _)) (.cons (.nm (⟨rfl, (.inl rfl), .inr rfl⟩ : IsNm _ 4 _)) (.cons .lit (.cons (.nm (⟨rfl, (.inl rfl), .inr rfl⟩ : IsNm _ 5 _)) (.cons .lit (.cons (.nm (⟨rfl, (.inl rfl), .inr rfl⟩ : IsNm _ 6 _)) .nil)))))) (pt_cmpR op_ne (pv 6) pe_str (nomark _)) 
        (pss_one (ps_ret (pe_makeK Ms Gs (hr.mono (by decide)) rfl at_s k2 (L2N.passes_call (L2N.takes_of rfl rfl rfl rfl) fun _ _ _ _ h => h) (pa_cons (pv 3) (pa_cons (pe_callR D_integer_in.ok (hr.mono (by decide)) rfl D_integer_in.at_ D_integer_in.kp pass0 (pa_cons (pv 4) pa_nil)) pa_nil)) (pk_cons (pe_callR D_integer_in.ok (hr.mono (by decide)) rfl D_integer_in.at_ D_integer_in.kp pass0 (pa_cons (pv 5) pa_nil)) (pk_cons (pe_callR D_integer_in.ok (hr.mono (by decide)) rfl D_integer_in.at_ D_integer_in.kp pass0 (pa_cons (pv 6) pa_nil)) pk_nil)))))
        pcs_nil))))))
      (pss_one (L2N.ps_raise (W := fun cls d _ H => E cls d H) rfl (L2N.takes_of rfl rfl rfl rfl) (pmk_anyN XB_F XB_q XB.at_ XB.kp (raises_own XB.sub XB.ty) rfl (pa_cons pe_str pa_nil)))), ?_⟩
    have wlen : ∀ w ∈ ws, w.length ≤ 600 := fun w h => (hw w h).1
    have bk : ∀ {x dx CB : Addr} {H1 H' : Hp}, Same H H1 → H1 x = none → H1 dx = none → But x (upd (upd H1 dx (.own x)) x (.ins CB dx [])) H' → Same H H' := fun s hx hdx B y o e => B _ _ (ne_of_none (s _ _ e) hx) (by rw [upd_ne (ne_of_none (s _ _ e) hx), upd_ne (ne_of_none (s _ _ e) hdx)]; exact s _ _ e)
    refine ⟨_, rfl, l, ws, rfl, hl, by omega, fun f => ?_, fun f1 => ⟨fun r er q hq => ?_, fun ns => ⟨fun f => ?_, fun f3 => ⟨fun f => ?_, fun f4 => ⟨fun f => ?_, fun f5 => ?_⟩⟩⟩⟩⟩
    · obtain rfl : ws = [Str.ofString "turn"] := by
        match ws, f with
        | [w], f =>
          rw [fitsP, Bool.and_eq_true] at f
          rw [of_decide_eq_true f.1]
        | w :: _ :: _, f =>
          rw [fitsP, Bool.and_eq_true] at f
          exact nomatch f.2
      refine fun x dx hx hdx ne => ⟨x, dx, rfl, upd_same, fun H' b k => ⟨rfl, k1' _ readB_turn x H' (bk (Same.refl H) hx hdx b) hx (.inr (.inr (.inr (k.less (none_make (Same.refl H) hx hdx)))))⟩⟩
    · subst er
      rw [readB_alt] at k1' k2'
      have rlen : r.length ≤ 1000 := by have := hn; rw [List.length_cons] at this; omega
      have s1 := same_upd (o := .lst (r.map V.str)) hq
      have e1 := upd_same (H := H) (a := q) (o := .lst (r.map V.str))
      generalize upd H q (.lst (r.map V.str)) = H1 at *
      refine ⟨_, rfl, q, rfl, ⟨_, SqL.of e1⟩, fun D2 hD => ?_⟩
      have sD := same_upd (o := .lst []) hD
      have hh := lc_list (K := K) (a := q) (xs := r.map V.str) (g := gName 7) (tt := tYes) (te := (fun σ H Q => (tCons (tVar 7) tNil) σ H fun vs H1 => spIntIn vs H1 Q E0)) (vs := [7]) (σ := setAll [(1, .ref q)] (start n_booking_in [.ref l])) (H1 := H1) (D := D2)
        (Qd := fun H' => Same H1 H' ∧ H' D2 = some (.lst ((r.map numW).map goalV))) (fun i H' => Same H1 H' ∧ H' D2 = some (.lst (((r.map numW).take i).map goalV))) ⟨sD, upd_same⟩ (fun i H' _ ⟨s, _⟩ => SqL.of (s _ _ e1)) (fun i x H' hx ⟨s, e⟩ => ?_) (fun H' ⟨s, e⟩ => ⟨s, ?_⟩)
      · obtain ⟨W, ⟨w0, h0⟩, hW⟩ := hh
        refine ⟨W, ⟨w0, h0⟩, fun i m H' w => ?_⟩
        rcases hW i m H' w with ⟨st, s2, e2⟩ | rr
        · refine .inl ⟨st, ?_⟩
          have s3 : Same H H' := s1.trans s2
          refine ⟨_, rfl, D2, _, rfl, .inr (SqL.of e2), fun x dx hx hdx ne => ⟨[.ref x], (r.map numW).map goalV, rfl, rfl, by rw [List.length_map, List.length_map, sizeLine_eq]; omega, fun p hp => ⟨x, dx, p, r.map numW, rfl, (same_upd hp) _ _ upd_same, upd_same, by rw [List.length_map]; omega, fun ok H3 B b3 => ⟨rfl, ?_⟩, fun bad H3 B => ?_⟩⟩⟩
          · refine k1' _ (if_pos ok) x H3 (bk s3 hx hdx fun y o ny e => B _ _ ny ((same_upd hp) _ _ e)) (same_none s3 hx) (.inr (.inr (.inl ?_)))
            rw [alt_words ok] at b3
            exact b3.less fun y hy => none_make (C := D.a) s3 hx hdx y (same_none (same_upd hp) hy)
          · exact k2' (if_neg (Bool.eq_false_iff.mp bad)) H3 (bk s3 hx hdx fun y o ny e => B _ _ ny ((same_upd hp) _ _ e))
        · exact .inr rr
      · rw [List.getElem?_map] at hx
        obtain ⟨w, hw1, rfl⟩ : ∃ w, r[i]? = some w ∧ x = V.str w := by
          cases ez : r[i]? with
          | none =>
            rw [ez] at hx
            exact nomatch hx
          | some a =>
            rw [ez] at hx
            exact ⟨a, rfl, (Option.some.inj hx).symm⟩
        refine ⟨rfl, _, rfl, w, rfl, wlen w (List.mem_cons_of_mem _ (List.mem_of_getElem? hw1)), fun H2 s2 => ⟨_, s2 _ _ e, by rw [List.length_map, List.length_take, List.length_map, sizeLine_eq]; omega, fun y o ey => (upd_ne (ne_of_none ey hD)).trans (s2 _ _ (s _ _ ey)), ?_⟩⟩
        rw [upd_same, List.take_add_one, List.getElem?_map, hw1, List.map_append]
        rfl
      · rw [List.length_map] at e
        rw [show r.length = (r.map numW).length from (List.length_map ..).symm, List.take_length] at e
        exact e
    · match ws, f, ns, hl, hn, hw, wlen, k1', k2' with
      | [a, b], _, ns, hl, hn, hw, wlen, k1', k2' =>
        have na : a ≠ "alternate" := fun z => ns ⟨[b], by rw [z]⟩
        rw [readB_two na] at k1' k2'
        refine ⟨_, rfl, _, rfl, b, rfl, wlen b (by simp), fun H1 s1 x dx hx hdx ne => ⟨x, dx, a, numW b, rfl, upd_same, fun n en ok lw bs t H' B e f1 f2 f3 z1 z2 _ => ⟨rfl, ?_⟩, fun bad H' B => ?_⟩⟩
        · obtain ⟨c, rfl⟩ := okMeet_room ok
          rw [en] at k1'
          refine k1' [Stp.meet c n] ?_ x H' (bk s1 hx hdx B) (same_none s1 hx) (.inl ⟨dx, lw, bs, [.ref t], e, ?_, f2, .cons ⟨t, rfl, TupW.of f3⟩ .nil, none_make s1 hx hdx _ z1, none_make s1 hx hdx _ z2⟩)
          · rw [meetR_ok ok]
          · rw [f1, iS_num en]
            rfl
        · exact k2' (meetR_bad bad) H' (bk s1 hx hdx B)
    · obtain ⟨a, b, t, c, rfl⟩ := len_four (fits_len f)
      · have et : t = Str.ofString "times" := by
          have f' : (decide (t = Str.ofString "times") && true) = true := f
          rw [Bool.and_true] at f'
          exact of_decide_eq_true f'
        subst et
        have na : a ≠ "alternate" := fun z => ns ⟨_, by rw [z]⟩
        rw [readB_four na] at k1' k2'
        refine ⟨_, rfl, _, rfl, b, rfl, wlen b (by simp), fun H1 s1 => ⟨_, rfl, c, rfl, wlen c (by simp), fun H2 s2 => ⟨rfl, rfl, fun x dx hx hdx ne => ⟨x, dx, a, numW b, numW c, some 0, rfl, upd_same, fun v e => by cases e; decide, fun n tm mo en et em ok b' H' hb B bk' => ⟨rfl, ?_⟩, fun bad H' B => ?_⟩⟩⟩⟩
        · cases em
          subst hb
          rw [en, et] at k1'
          refine k1' _ (serR_ok ok) x H' (bk (s1.trans s2) hx hdx B) (same_none (s1.trans s2) hx) (.inr (.inl ?_))
          rw [ser_words4 en et] at bk'
          exact bk'.less (none_make (s1.trans s2) hx hdx)
        · exact k2' (serR_bad bad) H' (bk (s1.trans s2) hx hdx B)
    · obtain ⟨a, b, t, c, m, q, rfl⟩ := len_six (fits_len f)
      · have f' : (decide (t = Str.ofString "times") && (decide (m = Str.ofString "more") && true)) = true := f
        rw [Bool.and_true, Bool.and_eq_true] at f'
        have et : t = Str.ofString "times" := of_decide_eq_true f'.1
        have em : m = Str.ofString "more" := of_decide_eq_true f'.2
        subst et em
        have na : a ≠ "alternate" := fun z => ns ⟨_, by rw [z]⟩
        refine ⟨_, rfl, rfl, _, rfl, fun hq => ?_, fun hq => ⟨hl, ⟨_, rfl⟩, ?_⟩⟩
        · have nq : q ≠ "0" := fun z => by rw [z] at hq; simp at hq
          rw [readB_six na nq] at k1' k2'
          refine ⟨_, rfl, _, rfl, b, rfl, wlen b (by simp), fun H1 s1 => ⟨_, rfl, c, rfl, wlen c (by simp), fun H2 s2 => ⟨_, rfl, q, rfl, wlen q (by simp), fun H3 s3 => ⟨rfl, rfl, fun x dx hx hdx ne => ⟨x, dx, a, numW b, numW c, numW q, rfl, upd_same, (hw q (by simp)).2, fun n tm mo en et em ok b' H' hb B bk' => ⟨rfl, ?_⟩, fun bad H' B => ?_⟩⟩⟩⟩⟩
          · subst hb
            rw [en, et, em] at k1'
            refine k1' _ (serR_ok ok) x H' (bk ((s1.trans s2).trans s3) hx hdx B) (same_none ((s1.trans s2).trans s3) hx) (.inr (.inl ?_))
            rw [ser_words6 en et em nq] at bk'
            exact bk'.less (none_make ((s1.trans s2).trans s3) hx hdx)
          · exact k2' (serR_bad bad) H' (bk ((s1.trans s2).trans s3) hx hdx B)
        · have zq : q = "0" := by simpa using hq
          refine k2' (readB_none ?_ ns (by simp) (fun _ _ _ z => nomatch z) (fun _ _ _ q' nq z => ?_)) H (Same.refl H)
          · exact fun z => nomatch z
          · injection z with _ z
            injection z with _ z
            injection z with _ z
            injection z with _ z
            injection z with _ z
            injection z with z _
            exact nq (z ▸ zq)
    · refine ⟨⟨_, rfl⟩, k2' (readB_none (fun z => ?_) ns (fun z => ?_) (fun a b k z => ?_) (fun a b k q nq z => ?_)) H (Same.refl H)⟩
      · rw [z] at f1
        exact absurd f1 (by decide +kernel)
      · obtain ⟨a, b, rfl⟩ := len_two z
        exact nomatch f3
      · rw [z] at f4
        exact absurd f4 (by simp [fitsP])
      · rw [z] at f5
        exact absurd f5 (by simp [fitsP])
end
end Cc

/-! The bookings of a text. -/
namespace Cc
open PySem PySem.Spec PyProof.Rows L2 TL
def rowsP (t : Str) : List (List Str) := if t = "" then [] else rowsT t
def TextOk (t : Str) : Prop := ∀ ln ∈ lines t, ∀ w ∈ wordsB ln, WordOk w
def BookV (K : PySem.W.Frag) (D : Kds) (H0 H : Hp) (v : V) (ws : List Str) : Prop := ∃ x ss, v = .ref x ∧ readB ws = some ss ∧ BookOfN K D H0 H x ws ss
theorem BookV.same {K : PySem.W.Frag} {D : Kds} {H0 H H1 : Hp} {v : V} {ws : List Str} (h : BookV K D H0 H v ws) (s : Same H H1) : BookV K D H0 H1 v ws := let ⟨x, ss, a, b, c⟩ := h; ⟨x, ss, a, b, c.same s⟩
def spParse (K : PySem.W.Frag) (D : Kds) (ET : Addr) : Sp := fun vs H Q E => ∃ (t : Str), vs = [.str t] ∧ TextOk t ∧ t.length ≤ 900 ∧
  ((∀ ws ∈ rowsP t, readB ws ≠ none) → ∀ p xs H', Same H H' → H p = none → H' p = some (.lst xs) → Paired (BookV K D H H') xs (rowsP t) → Q (.ref p) H') ∧
  (∀ k ws, (rowsP t)[k]? = some ws → readB ws = none → (∀ j ws', j < k → (rowsP t)[j]? = some ws' → readB ws' ≠ none) → ∀ H' d, Same H H' → H' d = none → E (.ref ET) (some d) (upd H' d (.xd [(("row" : Str), .int (k : Nat))])))
section
variable {P : Program} {w : World} {K : PySem.W.Frag} {mg : Str → Option Value} {base : Heap} {C EB ET TU pS gS : Addr} {mc : Value} {D : Kds}
abbrev s_parse_bookings : Stmt := top 34
abbrev n_parse_bookings : List Str := ["text", "bookings", "row", "line"]
theorem sc_parse_bookings : FnScope n_parse_bookings ["text"] (defScope s_parse_bookings) := ⟨rfl, rfl, rfl, by decide +kernel, rfl, by decide +kernel, by decide +kernel⟩
theorem okx_parse_bookings {f fB fIT : Addr} {fd : FuncData} (F : Fun K "parse_bookings" "parse_bookings" s_parse_bookings f fd) (B : Bt mg) (DB : FnOk P w K mg base (L2N.CX P w) 7 fB fdB ["words"] (spBookIn K D EB)) (atB : mg "booking_in" = some (.ref fB)) (kpB : PySem.W.keepIn K (.ref fB) = true) (bB : Binds K fdB ["words"] []) (XB : Err K mg "InvalidBooking" EB) (EXB : PySem.W.exmOne K (.ref EB) (.ref EB) = some true) (XT : PySem.ErX.EiTxt P K mg "InvalidText" ET fIT) : FnOk P w K mg base (L2.CX P w) 8 f fd ["text"] (spParse K D ET) := by
  refine F.okX sc_parse_bookings (fun vs H Q E h => ?_) (fun cdv A outer s H vs Q E hr h => ?_)
  · obtain ⟨t, rfl, _⟩ := h
    rfl
  · obtain ⟨t, rfl, ht, hn, k1, k2⟩ := h
    refine ⟨_, pss_cons (ps_if (pt_cmpR op_eq (pv 0) pe_str (nomark _))
        (pss_one (ps_ret (pe_lst pa_nil))) pss_nil)
      (pss_cons (ps_set (i := 1) sc_parse_bookings.nd rfl (.inl rfl) (pe_lst pa_nil))
      (pss_cons (ps_for (passes_of rfl) rfl (pi_enum (by rfl) B.enumerate (pa_cons (pe_split (pv 0) pe_str) pa_nil)) (pg_tup rfl (pgs_cons (pg_name (i := 2) sc_parse_bookings.nd rfl (.inl rfl)) (pgs_cons (pg_name (i := 3) sc_parse_bookings.nd rfl (.inl rfl)) pgs_nil)))
        (pss_one (L2H.ps_try_onlyX (X := cxOf (L2.CX P w) P w K mg base n_parse_bookings "parse_bookings" (defScope s_parse_bookings) f cdv A outer s H E) (c := .ref EB) (Wout := fun cls d _ H => E cls d H) (tb := fun W => tDrop (tBM K "list" rAppend (tVar 1) (tCons (tCallS (spBookIn K D EB) (WE W) (tCons (tM1 rSplit (tVar 3) (tC (.str " "))) tNil)) tNil))) (ts := fun a cls d _ σ H => tMkrow ET (tCons (tVar 2) tNil) σ H fun cls d H => E cls d H) rfl rfl ⟨rfl, by decide, .inl XB.at_⟩ (fun hd => L2H.passesAt_of rfl hd) (takes_of rfl rfl rfl rfl) (fun W pn xe tkN tkP po => pss_one (ps_expr (pe_bm PySem.F.plainAttrs_list PySem.F.slot_list_append PySem.F.type_list_append mt_append (pv 1) (pa_cons (pe_callS DB (hr.mono (by decide)) rfl atB kpB bB (fun σ => L2N.passAt tkN σ) (pa_cons (pe_split (pv 3) pe_str) pa_nil)) pa_nil)))) (fun a oe cls d pn hz hv tk2 hot => pss_one (L2H.ps_raiseHN (W := fun cls d _ H => E cls d H) hot tk2 (pmk5_row XT (Nat.lt_of_le_of_lt (Nat.le_trans (Nat.add_le_add_left (show 1 ≤ 3 * 7 by decide) _) (Nat.le_add_right _ 5)) hr.dp) (pv 2) rfl))))))
      (pss_one (ps_ret (pv 1))))), ?_⟩
    have sz := sizeLine_eq
    have spl : ∀ ln ∈ lines t, ln.length ≤ 900 := fun ln h => by
      have := tot_mem h
      have := (lines_tot t).1
      omega
    refine ⟨_, rfl, rfl, _, rfl, ?_⟩
    by_cases c : t = ""
    · refine ifT (by rw [str_ne]; exact decide_eq_true c) ?_
      have er : rowsP t = [] := if_pos c
      rw [er] at k1
      refine ⟨by show 0 ≤ sizeLine; decide, fun p hp => k1 (fun _ h => nomatch h) p [] _ (same_upd hp) hp upd_same .nil⟩
    refine ifF (by rw [str_ne]; exact decide_eq_false c) ?_
    have er : rowsP t = rowsT t := if_neg c
    rw [er] at k1 k2
    refine ⟨by show 0 ≤ sizeLine; decide, fun D2 hD => ?_⟩
    have s1 := same_upd (o := .lst []) hD
    have e1 := upd_same (H := H) (a := D2) (o := .lst [])
    generalize upd H D2 (.lst []) = H1 at *
    refine ⟨_, rfl, ⟨t, rfl⟩, t, _, rfl, rfl, by decide +kernel, by omega, fun m hm => ?_⟩
    have s2 := same_upd (o := .lst ((lines t).map V.str)) hm
    have em := upd_same (H := H1) (a := m) (o := .lst ((lines t).map V.str))
    have e2 := s2 _ _ e1
    generalize upd H1 m (.lst ((lines t).map V.str)) = H2 at *
    have lz := tot_len (lines t)
    have lt1 := (lines_tot t).1
    refine ⟨m, _, rfl, SqL.of em, ?_⟩
    have nmD : m ≠ D2 := fun z => by rw [z, e1] at hm; exact nomatch hm
    refine for_it (tb := fun De σ H2 => tDrop (tBM K "list" rAppend (tVar 1) (tCons (tCallS (spBookIn K D EB) (WE (wOnly K (.ref EB) (fun a cls d _ σ H => tMkrow ET (tCons (tVar 2) tNil) σ H fun cls d H => E cls d H) (fun cls d _ H => E cls d H) De)) (tCons (tM1 rSplit (tVar 3) (tC (.str " "))) tNil)) tNil)) De σ H2) walk_enum (fun i σ H' => ∃ (y2 y3 : Option V) (vs : List V), σ = [some (.str t), some (.ref D2), y2, y3] ∧ Same H H' ∧ H' D2 = some (.lst vs) ∧ Paired (BookV K D H1 H') vs ((rowsT t).take i) ∧ H' m = some (.lst ((lines t).map V.str)) ∧ (∀ y, H' y = none → H1 y = none) ∧ ∀ j ws, j < i → (rowsT t)[j]? = some ws → readB ws ≠ none)
      ⟨none, none, [], rfl, s1.trans s2, e2, .nil, em, fun y hy => same_none s2 hy, fun j ws h => by omega⟩ (fun i σ H' _ ⟨_, _, _, _, _, _, _, g, _⟩ => SqL.of g) ?_ ?_
    · rintro i v σ H3 H4 hi ⟨y2, y3, vs, rfl, s3, g3, pr, em3, nn, all⟩ ⟨T, a, b, rfl, hT, rfl, ha, hb⟩
      injection ha with ha
      subst ha
      dsimp only at hb
      rw [List.getElem?_map] at hb
      obtain ⟨ln, hln, rfl⟩ := Option.map_eq_some_iff.mp hb
      have hil := (List.getElem?_eq_some_iff.mp hln).1
      have hrow : (rowsT t)[i]? = some (wordsB ln) := by rw [List.getElem?_map, hln]; rfl
      have hlm : ln ∈ lines t := List.mem_of_getElem? hln
      have sT := same_upd (o := .tup [.int (i : Nat), .str ln]) hT
      refine ⟨T, _, rfl, SqT.of upd_same, rfl, _, _, rfl, _, _, rfl, rfl, ?_⟩
      have g4 := sT _ _ g3
      have em4 := sT _ _ em3
      generalize upd H3 T (.tup [.int (i : Nat), .str ln]) = H4 at *
      have vl : vs.length = i := by
        have := Paired.length pr
        rw [List.length_take, List.length_map] at this
        omega
      refine ⟨_, rfl, .inl ⟨rfl, _, SqL.of g4⟩, _, rfl, ⟨ln, rfl⟩, ln, _, rfl, rfl, by decide +kernel, by have := spl ln hlm; omega, fun wv hw => ?_⟩
      have s5 := same_upd (o := .lst ((wordsB ln).map V.str)) hw
      have ew := upd_same (H := H4) (a := wv) (o := .lst ((wordsB ln).map V.str))
      have g5 := s5 _ _ g4
      have em5 := s5 _ _ em4
      generalize upd H4 wv (.lst ((wordsB ln).map V.str)) = H5 at *
      have wt := (words_tot ln).1
      have wz := tot_len (wordsB ln)
      have s35 : Same H3 H5 := sT.trans s5
      refine ⟨wv, wordsB ln, rfl, ew, by have := spl ln hlm; omega, ht ln hlm, fun ss hs x H6 s6 hx bk => ?_, fun hn6 H6 s6 => ?_⟩
      · have s36 : Same H3 H6 := s35.trans s6
        refine ⟨D2, vs, _, rfl, rfl, s6 _ _ g5, by rw [vl]; omega, ?_⟩
        refine ⟨_, _, _, rfl, fun y o e => (upd_ne (ne_of_none e hD)).trans (s36 _ _ (s3 _ _ e)), upd_same, ?_, (upd_ne nmD).trans (s36 _ _ em3), fun y hy => nn y (same_none s36 (by rw [← hy, upd_ne fun z => by rw [z, upd_same] at hy; exact nomatch hy])), fun j ws hj hw2 => ?_⟩
        · rw [List.take_add_one, hrow]
          refine paired_snoc (Paired.mapP pr fun v ws z => ?_) ⟨x, ss, rfl, hs, (bk.less fun y hy => nn y (same_none s35 hy)).lst e1 (s6 _ _ g5)⟩
          obtain ⟨x', ss', a1, a2, a3⟩ := z.same s36
          exact ⟨x', ss', a1, a2, a3.lst e1 (s6 _ _ g5)⟩
        · by_cases z : j = i
          · rw [z, hrow] at hw2
            cases hw2
            rw [hs]
            exact nofun
          · exact all j ws (by omega) hw2
      · refine ⟨true, EXB, fun _ a ha => ⟨_, rfl, _, rfl, ⟨by omega, by omega⟩, fun d hd => k2 i _ hrow hn6 all H6 d (s3.trans (s35.trans s6)) hd⟩, fun q => nomatch q⟩
    · rintro σ H' ⟨y2, y3, vs, rfl, s3, g3, pr, em3, nn, all⟩
      have ez : (rowsT t).take (((lines t).map V.str).length) = rowsT t := List.take_of_length_le (by rw [List.length_map, List.length_map]; exact Nat.le_refl _)
      rw [ez] at pr
      refine ⟨_, rfl, k1 (fun ws hw => ?_) D2 vs H' s3 hD g3 (Paired.mapP pr fun v ws ⟨x, ss, a1, a2, a3⟩ => ⟨x, ss, a1, a2, a3.less fun y hy => same_none s1 hy⟩)⟩
      obtain ⟨j, hj⟩ := List.getElem?_of_mem hw
      refine all j ws ?_ hj
      have := (List.getElem?_eq_some_iff.mp hj).1
      rw [List.length_map] at this ⊢
      exact this
end
end Cc

/-! d.update(o) of two tracked dicts; receivers of several classes. -/
namespace Cc
open PySem PySem.Spec PyProof.Rows L2
section
variable {X : Cx}
def rUpdD : V → List V → Hp → VK → Prop := fun x vs H Q => ∃ (d o : Addr) (kvs more : List (Key × V)), x = .ref d ∧ vs = [.ref o] ∧ H d = some (.dK kvs) ∧ H o = some (.dK more) ∧ d ≠ o ∧ kvs.length + more.length ≤ 1000 ∧ Q .non (upd H d (.dK (mergeK kvs more)))
theorem mt_updD : MtR X "dict.update" rUpdD := by
  intro pins s σ H x vs v us Q I rx rv ⟨d, o, kvs, more, e1, e2, hd, ho, ne, fits, q⟩
  subst e1 e2
  cases rx
  obtain ⟨u, rfl, ru⟩ := rv.one
  cases ru
  obtain ⟨_, nd, as_, r1, D1⟩ := dk_of I.hok hd
  obtain ⟨_, no, bs_, r2, D2⟩ := dk_of I.hok ho
  have l1 : as_.length = kvs.length := r1.length.symm
  have l2 : bs_.length = more.length := r2.length.symm
  refine call_meetsIn PySem.F.slot_dict_update D1.typeIs PySem.F.entry_dict_update (PySem.F.args_dict_update_2 _ _) (meets_dict_update (mixKind X.prog X.w) d o ne no) ⟨as_, bs_, D1, D2, by rw [l1, l2, sizeLine_eq]; omega, fun h' D3 _ sb => ?_⟩
  have le : (mergeK kvs more).length ≤ sizeLine := by
    have := length_mergeK more kvs
    rw [sizeLine_eq]
    omega
  exact ⟨.non, _, d_write I (by rw [hd]; exact True.intro) sb (let ⟨q, _, _, hq, _⟩ := D3; ⟨q, hq⟩) (dk_new le nd (r2.merge r1) D3), rfl, q⟩
/-- a reading in one way or in another -/
def tOrE (t u : TE) : TE := fun σ H Q => t σ H Q ∨ u σ H Q
theorem pe_orE {e : Expr} {t u : TE} (a : PE X e t) (b : PE X e u) : PE X e (tOrE t u) := ⟨fun pins s σ H Q I h => h.elim (a.run pins s σ H Q I) (b.run pins s σ H Q I)⟩
end
end Cc

/-! What a booking of any class tells. -/
namespace Cc
open PySem PySem.Spec PyProof.Rows L2 TL
theorem PE.of {X : Cx} {e : Expr} {t u : TE} (h : PE X e t) (k : ∀ σ H Q, u σ H Q → t σ H Q) : PE X e u := ⟨fun pins s σ H Q I q => h.run pins s σ H Q I (k σ H Q q)⟩
/-- where a class of bookings stands -/
structure KdAt (K : PySem.W.Frag) (CB pP pC gC pL gL : Addr) : Prop where
  O : BTxt K CB
  mP : Meth K CB "planned" pP
  pC : PropOf K CB "step_count" pC gC
  pL : PropOf K CB "line" pL gL
structure KdsAt (K : PySem.W.Frag) (D : Kds) (pP pC gC pL gL : Addr) : Prop where
  m : KdAt K D.m pP pC gC pL gL
  s : KdAt K D.s pP pC gC pL gL
  a : KdAt K D.a pP pC gC pL gL
  t : KdAt K D.t pP pC gC pL gL
section
variable {X : Cx} {D : Kds} {pP pC gC pL gL : Addr} {fdP fdC fdL : FuncData} {i : Nat} {o : Expr} {C TU pS gS : Addr} {mc : Value}
def tLine4 (K : PySem.W.Frag) (D : Kds) (i : Nat) : TE := fun σ H Q => ∃ a ws ss, σ[i]? = some (some (.ref a)) ∧ BookOf K D H a ws ss ∧ tot ws ≤ 100000 ∧ Q (.str (Txt.join " " ws)) H
theorem pe_line4 {pos : Pos} (he : PE X o (tVar i)) (A : KdsAt X.K D pP pC gC pL gL) (F : Fun X.K "line" "Booking.line" s_Booking_line gL fdL) (hb : Binds X.K fdL ["self"] []) (hr : Room 2 X.A) (hab : attributeBase o "line" X.env (eval o X.env) = eval o X.env) : PE X (.Attribute o "line" pos) (tLine4 X.K D i) := by
  have one : ∀ {CB : Addr}, KdAt X.K CB pP pC gC pL gL → PE X (.Attribute o "line" pos) (tProp CB (spBkLine X.K CB) [] E0 (tVar i)) := fun k => pe_prop he k.O.cl k.pL (ok_Booking_line F k.O) hr hb .nil pass0 hab
  refine PE.of (pe_orE (one A.m) (pe_orE (one A.s) (pe_orE (one A.a) (one A.t)))) fun σ H Q ⟨a, ws, ss, hv, hB, ht, q⟩ => ?_
  have tell : ∀ {CB : Addr}, BookAt X.K CB H a ws ss → tProp CB (spBkLine X.K CB) [] E0 (tVar i) σ H Q := fun b => ⟨_, hv, a, _, _, rfl, b.choose_spec.choose_spec.choose_spec.choose_spec.1, a, ws, ss, rfl, b, ht, q⟩
  exact hB.imp tell (·.imp tell (·.imp tell tell))
def tPlan4 (K : PySem.W.Frag) (D : Kds) (i : Nat) : TE := fun σ H Q => ∃ a ws ss, σ[i]? = some (some (.ref a)) ∧ BookOf K D H a ws ss ∧ ss.length ≤ 1000 ∧ ∀ us, StepsV K H us ss → ∀ p, H p = none → Q (.ref p) (upd H p (.lst us))
theorem pe_plan4 {x : Str} {px apos p1 p2 p3 : Pos} {pl : Sem Bool} (he : PE X (.Name x px) (tVar i)) (A : KdsAt X.K D pP pC gC pL gL) (F : Fun X.K "planned" "Booking.planned" s_Booking_planned pP fdP) (hb : Binds X.K fdP ["self"] []) (hr : Room 4 X.A) (hg : Gl X "list") (hl : X.mg "list" = none)
    (hs : starEach [.Call (.Attribute (.Name x px) "planned" apos) [] [] p2] X.env = (false, eval (.Call (.Attribute (.Name x px) "planned" apos) [] [] p2) X.env) :: starEach [] X.env := by rfl)
    (ht : eval (.Call (.Attribute (.Name x px) "planned" apos) [] [] p2) X.env = (eval (.Name x px) X.env >>= fun ov => standAt apos.atName >>= fun _ => holding [ov] (getMethod ov "planned" pl) >>= fun q => callWith p2 q.1 q.2 (backTo p2 (starEach [] X.env)) (backToKw p2 (keywordEach [] X.env))) := by rfl) :
    PE X (.Call (.Name "list" p1) [.Call (.Attribute (.Name x px) "planned" apos) [] [] p2] [] p3) (tPlan4 X.K D i) := by
  have one : ∀ {CB : Addr}, KdAt X.K CB pP pC gC pL gL → PE X (.Call (.Name "list" p1) [.Call (.Attribute (.Name x px) "planned" apos) [] [] p2] [] p3) (tListG (tMethG CB "planned" (spPlanned X.K CB) [] E0 (tVar i) tNil)) := fun k =>
    pe_listG (k := 1) (E := E0) (pgen_meth0 (pl := pl) he k.O.cl k.mP (ok_Booking_planned F k.O) (hr.mono (by decide)) hb .nil ht) (fun _ _ _ _ _ _ _ h => by obtain ⟨_, _, _, _, _, _, _, _, _, _, _, _, z⟩ := h; exact z.elim) (fun _ _ _ h => h.elim) hr hg hl rfl (he := hs)
  refine PE.of (pe_orE (one A.m) (pe_orE (one A.s) (pe_orE (one A.a) (one A.t)))) fun σ H Q ⟨a, ws, ss, hv, hB, hl, q⟩ => ?_
  have tell : ∀ {CB : Addr}, BookAt X.K CB H a ws ss → tListG (tMethG CB "planned" (spPlanned X.K CB) [] E0 (tVar i) tNil) σ H Q := fun b => ⟨_, hv, a, _, _, rfl, b.choose_spec.choose_spec.choose_spec.choose_spec.1, rfl, a, ws, ss, rfl, b, hl, fun us hu p hp => q us hu p hp⟩
  exact hB.imp tell (·.imp tell (·.imp tell tell))
end
end Cc

/-! The text of bookings. -/
namespace Cc
open PySem PySem.Spec PyProof.Rows L2 TL
def LineV (K : PySem.W.Frag) (D : Kds) (H : Hp) (v : V) (ws : List Str) : Prop := ∃ x ss, v = .ref x ∧ BookOf K D H x ws ss ∧ tot ws ≤ 1000
theorem LineV.same {K : PySem.W.Frag} {D : Kds} {H H1 : Hp} {v : V} {ws : List Str} (h : LineV K D H v ws) (s : Same H H1) : LineV K D H1 v ws := let ⟨x, ss, a, b, c⟩ := h; ⟨x, ss, a, b.same s, c⟩
def spFmt (K : PySem.W.Frag) (D : Kds) : Sp := fun vs H Q _ => ∃ rows, Paired (LineV K D H) vs rows ∧ vs.length ≤ 100 ∧ ∀ H', Same H H' → Q (.str (Txt.join "\n" (rows.map (Txt.join " ")))) H'
def spFmtS (K : PySem.W.Frag) (D : Kds) : Sp := fun vs H Q _ => ∃ (p : Addr) (xs : List V) (rows : List (List Str)), vs = [.ref p] ∧ H p = some (.tup xs) ∧ Paired (LineV K D H) xs rows ∧ xs.length ≤ 100 ∧ ∀ H', Same H H' → Q (.str (Txt.join "\n" (rows.map (Txt.join " ")))) H'
abbrev s_format_bookings : Stmt := top 33
abbrev n_format_bookings : List Str := ["bookings", "booking"]
theorem sc_format_bookings : FnScope n_format_bookings ["bookings"] (defScope s_format_bookings) := ⟨rfl, rfl, rfl, by decide +kernel, rfl, by decide +kernel, by decide +kernel⟩
theorem bind_star0 {B : List Value → Sem (List (Str × Value))} {pv : Str} (h0 : B [] = (newTuple [] >>= fun t => pure [(pv, t)])) (h1 : ∀ r rs, B (r :: rs) = (newTuple (r :: rs) >>= fun t => pure [(pv, t)])) :
    ∀ us rest : List Value, us.length = ([] : List Str).length → B (us ++ rest) = (newTuple rest >>= fun t => pure (([] : List Str).zip us ++ [(pv, t)]))
  | [], [], _ => h0
  | [], r :: rs, _ => h1 r rs
theorem paired_getR {α β : Type} {R : α → β → Prop} : ∀ {xs : List α} {ys : List β} {i : Nat} {y : β}, Paired R xs ys → ys[i]? = some y → ∃ x, xs[i]? = some x ∧ R x y
  | _, _, 0, _, .cons a _, e => by cases e; exact ⟨_, rfl, a⟩
  | _, _, i + 1, x, .cons _ r, e => paired_getR (i := i) r e
theorem tot_bound {n : Nat} {l : List Str} (h : ∀ x ∈ l, x.length ≤ n) : tot l ≤ l.length * (n + 1) := by
  unfold tot
  induction l with
  | nil => exact Nat.zero_le _
  | cons x l ih =>
    rw [List.map_cons, List.sum_cons]; rw [List.length_cons, Nat.succ_mul]
    have := h x List.mem_cons_self
    have := ih fun y hy => h y (List.mem_cons_of_mem _ hy)
    omega
theorem paired_get {α β : Type} {R : α → β → Prop} : ∀ {xs : List α} {ys : List β} {i : Nat} {x : α}, Paired R xs ys → xs[i]? = some x → ∃ y, ys[i]? = some y ∧ R x y
  | _, _, 0, _, .cons a _, e => by cases e; exact ⟨_, rfl, a⟩
  | _, _, i + 1, x, .cons _ r, e => paired_get (i := i) r e
section
variable {P : Program} {w : World} {K : PySem.W.Frag} {mg : Str → Option Value} {base : Heap} {D : Kds} {pP pC gC pL gL : Addr} {fdL : FuncData}
theorem ok_format_bookings {f : Addr} {fd : FuncData} (F : Fun K "format_bookings" "format_bookings" s_format_bookings f fd) (KA : KdsAt K D pP pC gC pL gL) (FLi : Fun K "line" "Booking.line" s_Booking_line gL fdL) (bLi : Binds K fdL ["self"] []) : FnR P w K mg base CX0 4 f (spFmt K D) := by
  obtain ⟨z1, z2, z3, z4, z5, z6, cdv, z7, z8, rfl, lk, hcd⟩ := F.ex
  refine (StX.fn_star (ps := []) (pv := "bookings") (sp := spFmtS K D) (k := 3) lk hcd sc_format_bookings StX.cxUp_none (bind_star0 (B := fun us => bindArgs _ ⟨us, []⟩) rfl (fun _ _ => rfl)) fun A outer s H vs Q E hr h => ?_).imp fun vs H Q E h => ?_
  · obtain ⟨p, xs, rows, rfl, hp, pr, l1, k1⟩ := h
    refine ⟨_, pss_one (ps_ret (pe_join pe_str (pe_lc (own := [("booking", 1)]) (g := gName 1) (tt := tYes) (te := tLine4 K D 1) rfl sc_format_bookings.nd (pi_tup (pv 0)) (blkOk_by (N := n_format_bookings) (sc := defScope s_format_bookings) (by decide +kernel)) (fun _ _ _ _ _ => pg_name (i := 1) sc_format_bookings.nd rfl (.inl rfl)) (fun _ _ _ _ _ => by exact pts_nil) (fun _ _ _ _ _ => by exact (pe_line4 (pv 1) KA FLi bLi (hr.mono (by decide)) rfl))))), ?_⟩
    have lr := Paired.length pr
    refine ⟨⟨_, rfl⟩, _, rfl, p, rfl, ⟨_, SqT.of hp⟩, fun D2 hD => ?_⟩
    have s1 := same_upd (o := .lst []) hD
    have hh := lc_tup (K := K) (a := p) (xs := xs) (g := gName 1) (tt := tYes) (te := tLine4 K D 1) (vs := [1]) (σ := start n_format_bookings [.ref p]) (H1 := H) (D := D2)
      (Qd := fun H' => Same H H' ∧ H' D2 = some (.lst ((rows.map (Txt.join " ")).map V.str))) (fun i H' => Same H H' ∧ H' D2 = some (.lst (((rows.take i).map (Txt.join " ")).map V.str))) ⟨s1, upd_same⟩ (fun i H' _ ⟨s, _⟩ => SqT.of (s _ _ hp)) (fun i x H' hx ⟨s, e⟩ => ?_) (fun H' ⟨s, e⟩ => ⟨s, ?_⟩)
    · obtain ⟨W, ⟨w0, h0⟩, hW⟩ := hh
      refine ⟨W, ⟨w0, h0⟩, fun i m H' w => ?_⟩
      rcases hW i m H' w with ⟨st, s2, e2⟩ | rr
      · refine .inl ⟨st, ?_⟩
        refine ⟨"\n", D2, rows.map (Txt.join " "), rfl, rfl, .inl (SqL.of e2), join_sum (by decide +kernel) (Nat.le_trans (tot_bound (n := 1000) fun x hx => ?_) ?_), k1 H' s2⟩
        · obtain ⟨ws, hw, rfl⟩ := List.mem_map.mp hx
          obtain ⟨i, hi⟩ := List.getElem?_of_mem hw
          obtain ⟨_, _, _, _, _, _, lt⟩ := paired_getR pr hi
          have := join_len_le (y := " ") (by decide +kernel) ws
          omega
        · rw [List.length_map]
          have := Nat.mul_le_mul_right 1001 (show rows.length ≤ 100 by omega)
          omega
      · exact .inr rr
    · obtain ⟨ws, hw, y, ss, rfl, bk, lt⟩ := paired_get pr hx
      refine ⟨rfl, y, ws, ss, rfl, bk.same s, by omega, _, e, by rw [List.length_map, List.length_map, List.length_take, sizeLine_eq]; omega, fun z o ez => (upd_ne (ne_of_none ez hD)).trans (s _ _ ez), ?_⟩
      rw [upd_same, List.take_add_one, hw]
      simp
    · rw [lr, List.take_length] at e
      exact e
  · obtain ⟨rows, pr, l1, k1⟩ := h
    have hl := Paired.length pr
    refine ⟨[], vs, rfl, rfl, by rw [sizeLine_eq]; omega, fun p hp => ?_⟩
    have sq : Same H (upd H p (.tup vs)) := same_upd hp
    exact ⟨p, vs, rows, rfl, upd_same, Paired.mapP pr fun _ _ z => z.same sq, l1, fun H' s => k1 H' (sq.trans s)⟩
end
end Cc

/-! The law of texts: the integer of a word. -/
namespace Cc
open PySem PySem.Spec PyProof.Rows L2 TL
theorem sign_lt (a b : Nat) : (!decide ((⟨#[a]⟩ : Str).cps.toList < (⟨#[b]⟩ : Str).cps.toList)) = decide (b ≤ a) := by
  show (!decide ([a] < [b])) = _
  rw [← decide_not]
  refine decide_eq_decide.mpr ?_
  rw [List.cons_lt_cons_iff]
  simp
def oddC (l : List Nat) : List Nat := l.filter fun c => !decide (48 ≤ c ∧ c ≤ 57)
abbrev sg (c : Nat) : Str := ⟨#[c]⟩
theorem oddC_nil (l : List Nat) : decide ((oddC l).map sg = []) = digs l := by
  rw [Bool.eq_iff_iff, decide_eq_true_iff, List.map_eq_nil_iff]
  unfold oddC digs
  rw [List.filter_eq_nil_iff, List.all_eq_true]
  refine forall_congr' fun c => forall_congr' fun _ => ?_
  simp
theorem sg_ok {c : Nat} (h : c < 1114112) : okS (sg c) := fun d hd => by
  have e : d = c := List.mem_singleton.mp hd
  rw [e]
  exact h
theorem small_lt' {n : Nat} (h : n ≤ 10000000) : n < sizeLine := by
  rw [sizeLine_eq]
  omega
def spLNumW : Sp := fun vs H Q _ => ∃ x : Str, vs = [.str x] ∧ okS x ∧ x.length ≤ 600 ∧ ∀ H', Same H H' → Q (goalV (numW x)) H'
theorem tl_one (z : Str) : tl (cutS z none (some 1)) = (tl z).take 1 := by
  show ((tl z).drop 0).take (HT.sIx z.length z.length (some ((1 : Nat) : Int)) - 0) = _
  rw [HT.sIx_nat, List.drop_zero, Nat.sub_zero, len_tl]
  cases tl z with
  | nil => rfl
  | cons a r => rw [List.length_cons, Nat.min_eq_left (by omega)]
theorem tl_tail (z : Str) : tl (cutS z (some 1) none) = (tl z).drop 1 := by
  show ((tl z).drop (HT.sIx z.length 0 (some ((1 : Nat) : Int)))).take (z.length - HT.sIx z.length 0 (some ((1 : Nat) : Int))) = _
  rw [HT.sIx_nat, len_tl]
  cases tl z with
  | nil => rfl
  | cons a r =>
    rw [List.length_cons, Nat.min_eq_left (by omega)]
    exact List.take_of_length_le (by simp [])
theorem undash_no {l : List Nat} (h : l.take 1 ≠ [45]) : undash l = l := by
  unfold undash
  split
  · exact absurd rfl h
  · rfl
theorem undash_yes {l : List Nat} (h : l.take 1 = [45]) : undash l = l.drop 1 := by
  cases l with
  | nil => exact nomatch h
  | cons a r =>
    have : a = 45 := by simpa using h
    subst this
    rfl
section
variable {P : Program} {w : World} {K : PySem.W.Frag} {mg : Str → Option Value} {base : Heap} {C TU pS gS : Addr} {mc : Value}
abbrev s__law_number : Stmt := top 43
abbrev n__law_number : List Str := ["_law_word", "_law_digits", "_law_c"]
theorem sc__law_number : FnScope n__law_number ["_law_word"] (defScope s__law_number) := ⟨rfl, rfl, rfl, by decide +kernel, rfl, by decide +kernel, by decide +kernel⟩
theorem ok__law_number {f : Addr} {fd : FuncData} (F : Fun K "_law_number" "_law_number" s__law_number f fd) (B : Bt mg) : FnOk P w K mg base CX0 1 f fd ["_law_word"] spLNumW := by
  refine F.ok sc__law_number (fun vs H Q E h => ?_) (fun cdv A outer s H vs Q E hr h => ?_)
  · obtain ⟨x, rfl, _⟩ := h
    rfl
  · obtain ⟨x, rfl, ox, lx, k⟩ := h
    refine ⟨_, C8.pss_cut (ps_set (i := 1) sc__law_number.nd rfl (.inl rfl) (pe_ifExp (pt_cmpR op_eq (pe_slice sl_str (pv 0) po_none (po_some pe_int)) pe_str (nomark _)) (pe_slice sl_str (pv 0) (po_some pe_int) po_none) (pv 0)))
      (C8.pss_cut (ps_if (PW.pt (pw_or (pt_cmpR op_eq (pv 1) pe_str (nomark _)) (pw_or (pt_cmpR (op_neD hr.units) (pe_lc (own := [("_law_c", 2)]) (g := gName 2) (tt := (tNot (tTest (tChain rLeS rLeS (tC (.str "0")) (tVar 2) (tC (.str "9")))))) (te := (tVar 2)) rfl sc__law_number.nd (pi_str (pv 1)) (blkOk_by (N := n__law_number) (sc := defScope s__law_number) (by decide +kernel)) (fun _ _ _ _ _ => pg_name (i := 2) sc__law_number.nd rfl (.inl rfl)) (fun _ _ _ _ _ => by exact (pts_one (pt_not (pt_chain op_le_str op_le_str pe_str (pv 2) pe_str)))) (fun _ _ _ _ _ => by exact (pv 2))) (pe_lst pa_nil) (nomark _)) (pw_or1 (PW.pt (pw_and (pt_cmpR op_gt (pe_callB call_len (by rfl) B.len PySem.boot_len (pa_cons (pv 1) pa_nil)) pe_int (nomark _)) (pw_and1 (pt_cmpR op_eq (pe_ix ix_str (pv 1) pe_int (fun _ _ => rfl)) pe_str (nomark _)))))))))
        (pss_one (ps_ret pe_non)) pss_nil)
      (pss_one (ps_ret (pe_ifExp (pt_cmpR op_eq (pv 0) pe_str (nomark _)) pe_non (pe_op op_mul (pe_callTy call_int_str (by rfl) B.int (by decide +kernel) (pa_cons (pv 1) pa_nil)) (pe_op op_sub pe_int (pe_op op_mul pe_int (pe_callTy call_int1 (by rfl) B.int (by decide +kernel) (pa_cons (pe_cmpR op_ne (pv 0) (pv 1) (nomark _)) pa_nil))))))))), ?_⟩
    have sz := sizeLine_eq
    refine ⟨fun σ H' => ∃ d, σ = [some (.str x), some (.str d), none] ∧ H' = H ∧ tl d = undash (tl x) ∧ d.length ≤ 600, ?_, ?_⟩
    · refine ⟨_, rfl, 1, rfl, x, rfl, by omega, rfl, _, rfl, ?_⟩
      by_cases c : (tl x).take 1 = [45]
      · refine ifT (by rw [str_ne]; exact decide_eq_true (str_tl.mpr (by rw [tl_one, c]; decide +kernel))) ⟨_, rfl, 1, rfl, x, rfl, by omega, _, rfl, rfl, ?_, Nat.le_trans (cutS_length ..) lx⟩
        rw [tl_tail, undash_yes c]
      · exact ifF (by rw [str_ne]; exact decide_eq_false fun z => c (by rw [← tl_one, str_tl.mp z]; decide +kernel)) ⟨_, rfl, x, rfl, rfl, (undash_no c).symm, lx⟩
    rintro σ H0 ⟨d, rfl, rfl, ed, ld⟩
    have e0 := intL_D (tl x)
    rw [← ed] at e0
    have od : ∀ c ∈ tl d, c < 1114112 := fun c hc => ox c (by
      rw [ed] at hc
      unfold undash at hc
      split at hc
      · rename_i r e
        rw [e]
        exact List.mem_cons_of_mem _ hc
      · exact hc)
    have ex : tl d = tl x ∨ tl x = 45 :: tl d := by
      rw [ed]
      unfold undash
      split
      · rename_i r e
        exact .inr e
      · exact .inl rfl
    clear ed
    unfold intD at e0
    have e0 : numW x = _ := e0
    refine ⟨fun σ H' => σ = [some (.str x), some (.str d), none] ∧ Same H0 H' ∧ tl d ≠ [] ∧ digs (tl d) = true ∧ ¬ (1 < d.length ∧ (tl d).head? = some 48), ?_, ?_⟩
    · have bad0 : tl d = [] ∨ digs (tl d) = false → ∀ H', Same H0 H' → Q .non H' := fun z H' s => by
        have := k H' s
        rw [e0, if_pos (by rcases z with z | z <;> rw [z] <;> simp)] at this
        exact this
      refine ⟨_, rfl, rfl, _, rfl, ?_⟩
      by_cases c : tl d = []
      · exact ifT (by rw [str_ne]; exact decide_eq_true (str_tl.mpr (by rw [c]; decide +kernel))) (bad0 (.inl c) H0 (Same.refl H0))
      · refine ifF (by rw [str_ne]; exact decide_eq_false fun z => c (by rw [z]; decide +kernel)) ⟨_, rfl, d, rfl, fun D hD => ?_⟩
        have s0 := same_upd (o := .lst []) hD
        have lx2 : (tl d).length ≤ 600 := by rw [← len_tl]; exact ld
        refine lc_it walk_str (fun i H' => Same H0 H' ∧ H' D = some (.lst (((oddC ((tl d).take i)).map sg).map V.str))) ⟨s0, upd_same⟩ (fun _ _ _ _ => trivial) ?_ ?_
        · rintro i v H1 H2 hi ⟨s1, g1⟩ ⟨rfl, cc, hc, rfl⟩
          rw [cps_get] at hc
          have q0 : (!decide ((sg cc).cps.toList < (Str.ofString "0").cps.toList)) = decide (48 ≤ cc) := by
            rw [show Str.ofString "0" = sg 48 from str_tl.mpr (by decide +kernel)]; exact sign_lt cc 48
          have q9 : (!decide ((Str.ofString "9").cps.toList < (sg cc).cps.toList)) = decide (cc ≤ 57) := by
            rw [show Str.ofString "9" = sg 57 from str_tl.mpr (by decide +kernel)]; exact sign_lt 57 cc
          have et : oddC ((tl d).take (i + 1)) = oddC ((tl d).take i) ++ (if 48 ≤ cc ∧ cc ≤ 57 then [] else [cc]) := by
            rw [take_more hc]
            unfold oddC
            rw [List.filter_append]
            congr 1
            by_cases z : 48 ≤ cc ∧ cc ≤ 57
            · rw [if_pos z, List.filter_cons_of_neg (by simp [z])]; rfl
            · rw [if_neg z, List.filter_cons_of_pos (by simp; omega)]; rfl
          have ll : ((oddC ((tl d).take i)).map sg).length ≤ 600 := by
            rw [List.length_map]
            unfold oddC
            refine Nat.le_trans (List.length_filter_le _ _) ?_
            rw [List.length_take]; omega
          have yes : ¬ (48 ≤ cc ∧ cc ≤ 57) → Same H0 (upd H2 D (.lst (((oddC ((tl d).take i)).map sg).map V.str ++ [.str (sg cc)]))) ∧ upd H2 D (.lst (((oddC ((tl d).take i)).map sg).map V.str ++ [.str (sg cc)])) D = some (.lst (((oddC ((tl d).take (i + 1))).map sg).map V.str)) := fun z => by
            refine ⟨same_new hD s1, ?_⟩
            rw [et, if_neg z, List.map_append, List.map_append]; exact upd_same
          refine ⟨rfl, _, rfl, _, _, rfl, rfl, _, rfl, ?_⟩
          by_cases c0 : 48 ≤ cc
          · refine ifT (q0.trans (decide_eq_true c0)) ⟨_, _, rfl, rfl, _, rfl, ?_⟩
            by_cases c9 : cc ≤ 57
            · refine ifF (by rw [q9, decide_eq_true c9]; rfl) ⟨s1, ?_⟩
              rw [et, if_pos ⟨c0, c9⟩, List.append_nil]; exact g1
            · exact ifT (by rw [q9, decide_eq_false c9]; rfl) ⟨_, rfl, _, g1, by rw [List.length_map]; exact small_lt' (by omega), yes fun z => c9 z.2⟩
          · exact ifF (q0.trans (decide_eq_false c0)) ⟨_, rfl, iteT ⟨_, rfl, _, g1, by rw [List.length_map]; exact small_lt' (by omega), yes fun z => c0 z.1⟩⟩
        · rintro H1 ⟨s1, g1⟩
          have ez : (tl d).take d.cps.size = tl d := List.take_of_length_le (by rw [← len_tl]; exact Nat.le_refl _)
          rw [ez] at g1
          have gok : ∀ y ∈ (oddC (tl d)).map sg, okS y := fun y hy => by
            obtain ⟨e, hd, rfl⟩ := List.mem_map.mp hy
            exact sg_ok (od e (List.mem_filter.mp hd).1)
          refine ⟨by show 0 ≤ sizeLine; decide, fun p hp => ⟨_, _, .lst (SqL.of ((same_upd hp) _ _ g1)) (dp_strs _), .lst (SqL.of upd_same) .nil, strs_shaped gok, by decide +kernel, _, rfl, ?_⟩⟩
          have s2 := s1.trans (same_upd (o := .lst []) hp)
          have q1 : PyData.eqv (.list (((oddC (tl d)).map sg).map PyData.str)) (.list []) = digs (tl d) := (strs_eqv _ []).trans (oddC_nil (tl d))
          cases hg : digs (tl d) with
          | false => exact ifT (by rw [q1, hg]; rfl) (iteT (bad0 (.inr hg) _ s2))
          | true =>
            refine ifF (by rw [q1, hg]; rfl) ⟨_, rfl, _, _, rfl, ⟨Nat.le_trans ld (by decide), rfl⟩, _, _, rfl, rfl, _, rfl, ?_⟩
            obtain ⟨c0, r0, eL⟩ : ∃ c0 r0, tl d = c0 :: r0 := by
              cases h : tl d with
              | nil => exact absurd h c
              | cons a b => exact ⟨a, b, rfl⟩
            by_cases c1 : 1 < d.length
            · refine ifT (decide_eq_true (by omega)) ⟨_, rfl, d, 0, c0, rfl, rfl, Nat.le_trans ld (by decide), (by have e := atI_nat (xs := tl d) (j := 0) (v := c0) (by rw [eL]; rfl); exact e), rfl, _, rfl, ?_⟩
              have q2 : decide (V.str (sg c0) = V.str "0") = decide (c0 = 48) := by
                rw [str_ne]
                refine decide_eq_decide.mpr ⟨fun z => ?_, fun z => ?_⟩
                · have := str_tl.mp z
                  rw [show tl (Str.ofString "0") = [48] by decide +kernel] at this
                  injection this with this _
                · rw [z]; exact str_tl.mpr (by decide +kernel)
              by_cases c48 : c0 = 48
              · refine ifT (q2.trans (decide_eq_true c48)) ?_
                have := k _ s2
                have nx : tl x ≠ [48] := fun z => by
                  rw [len_tl] at c1
                  rcases ex with y | y
                  · rw [y, z] at c1
                    exact absurd c1 (by decide)
                  · rw [y] at z
                    exact nomatch z
                rw [e0, hg, eL, if_neg (by simp), if_pos ⟨by rw [c48]; rfl, nx⟩] at this
                exact this
              · exact ifF (q2.trans (decide_eq_false c48)) ⟨rfl, s2, c, rfl, fun z => c48 (by have := z.2; rw [eL] at this; injection this)⟩
            · exact ifF (decide_eq_false (by omega)) (iteF ⟨rfl, s2, c, rfl, fun z => c1 z.1⟩)
    rintro σ H1 ⟨rfl, s1, n1, n2, n3⟩
    have ei : PySem.intText? d = some ((valL (tl d) : Nat) : Int) := PySem.intText_digits (fun c hc => digs_mem n2 c hc) n1 (by omega)
    have ne : (tl d).isEmpty = false := by
      cases h : tl d with
      | nil => exact absurd h n1
      | cons a b => rfl
    rw [n2, ne, if_neg (by decide)] at e0
    have kk := k H1 s1
    refine ⟨_, rfl, rfl, _, rfl, ?_⟩
    by_cases c : x = "-0"
    · refine ifT (by rw [str_ne]; exact decide_eq_true c) ?_
      rw [c, show numW (Str.ofString "-0") = none by decide +kernel] at kk
      exact kk
    · refine ifF (by rw [str_ne]; exact decide_eq_false c) ?_
      rw [e0, if_neg fun z => ?_] at kk
      · have ld2 : d.length ≤ 640 := by omega
        refine ⟨_, rfl, d, _, rfl, ei, ld2, _, rfl, _, rfl, rfl, .inr ⟨_, rfl, _, _, rfl, rfl, .inl ⟨by decide, by decide⟩, _, _, rfl, rfl, ?_⟩⟩
        by_cases q : x = d
        · rw [if_pos (by rw [q])] at kk
          rw [decide_eq_true (show V.str x = V.str d by rw [q])]
          refine ⟨_, _, rfl, rfl, .inr ⟨by decide, by decide⟩, ?_⟩
          have e : ((valL (tl d) : Nat) : Int) * (1 - 2 * (if (!true) = true then 1 else 0)) = ((valL (tl d) : Nat) : Int) := by
            rw [if_neg (by decide)]
            omega
          show Q (V.int (((valL (tl d) : Nat) : Int) * (1 - 2 * (if (!true) = true then 1 else 0)))) H1
          rw [e]
          exact kk
        · rw [if_neg fun z => q (ext_tl z).symm] at kk
          rw [decide_eq_false fun z : V.str x = V.str d => q (by injection z)]
          refine ⟨_, _, rfl, rfl, .inr ⟨by decide, by decide⟩, ?_⟩
          have e : ((valL (tl d) : Nat) : Int) * (1 - 2 * (if (!false) = true then 1 else 0)) = -((valL (tl d) : Nat) : Int) := by
            rw [if_pos (by decide)]
            omega
          show Q (V.int (((valL (tl d) : Nat) : Int) * (1 - 2 * (if (!false) = true then 1 else 0)))) H1
          rw [e]
          exact kk
      · obtain ⟨z1, z2⟩ := z
        have dl : (tl d).length = 1 := by
          by_cases y : 1 < d.length
          · exact absurd ⟨y, z1⟩ n3
          · have : (tl d).length ≠ 0 := fun w => n1 (List.eq_nil_of_length_eq_zero w)
            rw [len_tl] at y
            omega
        have d48 : tl d = [48] := by
          cases h : tl d with
          | nil => exact absurd h n1
          | cons a b =>
            rw [h] at dl z1
            have : b = [] := List.eq_nil_of_length_eq_zero (by simpa using dl)
            rw [this]
            have : a = 48 := by simpa using z1
            rw [this]
        rcases ex with y | y
        · exact z2 (by rw [← y, d48])
        · exact c (str_tl.mpr (by rw [y, d48]; decide +kernel))
end
end Cc

set_option maxHeartbeats 2000000
/-! Own rule: every other item of a list, xs[a::2]. -/
namespace Cc
open PySem PySem.Spec PyProof.Rows L2
def evensL {α : Type} : List α → List α
  | [] => []
  | [x] => [x]
  | x :: _ :: r => x :: evensL r
theorem evensL_map {α β : Type} (f : α → β) : ∀ l : List α, evensL (l.map f) = (evensL l).map f
  | [] => rfl
  | [_] => rfl
  | x :: y :: r => by
    show f x :: evensL (r.map f) = f x :: (evensL r).map f
    rw [evensL_map f r]
theorem evensL_len {α : Type} : ∀ l : List α, (evensL l).length ≤ l.length
  | [] => Nat.le_refl _
  | [_] => Nat.le_refl _
  | x :: y :: r => by
    show (evensL r).length + 1 ≤ r.length + 1 + 1
    have := evensL_len r
    omega
theorem evensL_paired {α β : Type} {R : α → β → Prop} : ∀ {xs : List α} {ys : List β}, Paired R xs ys → Paired R (evensL xs) (evensL ys)
  | _, _, .nil => .nil
  | _, _, .cons a .nil => .cons a .nil
  | _, _, .cons a (.cons _ r) => .cons a (evensL_paired r)
theorem pick2 {α : Type} (l : List α) : ∀ (c s : Nat), c = (l.length - s + 1) / 2 → (List.range c).filterMap (fun k => l[s + 2 * k]?) = evensL (l.drop s)
  | 0, s, h => by
    have : l.length ≤ s := by omega
    rw [List.drop_eq_nil_of_le this]
    rfl
  | c + 1, s, h => by
    have hs : s < l.length := by omega
    rw [List.range_succ_eq_map, List.filterMap_cons]
    have e0 : l[s + 2 * 0]? = some l[s] := List.getElem?_eq_getElem hs
    simp only [e0]
    rw [List.filterMap_map]
    have ih := pick2 l c (s + 2) (by omega)
    have ef : ((fun k => l[s + 2 * k]?) ∘ Nat.succ) = fun k => l[s + 2 + 2 * k]? := by
      funext k
      show l[s + 2 * (k + 1)]? = _
      rw [show s + 2 * (k + 1) = s + 2 + 2 * k by omega]
    rw [ef, ih, List.drop_eq_getElem_cons hs]
    by_cases h1 : s + 1 < l.length
    · rw [List.drop_eq_getElem_cons h1]
      rfl
    · rw [List.drop_eq_nil_of_le (by omega : l.length ≤ s + 1), List.drop_eq_nil_of_le (by omega : l.length ≤ s + 2)]
      rfl
theorem pick_two (items : Array Value) (a : Nat) : slicePick items (some (a : Int)) none (some 2) = (evensL (items.toList.drop a)).toArray := by
  have e : sliceBounds (some (a : Int)) none (some 2) items.size = (((min a items.size : Nat) : Int), (items.size : Int), 2) := by
    simp only [sliceBounds, Option.getD_some]
    have h1 : ¬ ((a : Int) < 0) := Int.not_lt.mpr (Int.natCast_nonneg a)
    simp only [h1, if_false, show (2 : Int) > 0 by decide, if_true]
    congr 1
    omega
  unfold slicePick
  rw [e]
  show ((sliceRange ((min a items.size : Nat) : Int) (items.size : Int) 2).filterMap (items[·]?)).toArray = _
  have er : sliceRange ((min a items.size : Nat) : Int) (items.size : Int) 2 = (List.range ((items.size - min a items.size + 1) / 2)).map fun k => min a items.size + 2 * k := by
    unfold sliceRange
    simp only [show (2 : Int) > 0 by decide, if_true]
    have ec : (if ((min a items.size : Nat) : Int) < (items.size : Int) then ((items.size : Int) - ((min a items.size : Nat) : Int) + 2 - 1) / 2 else 0).toNat = (items.size - min a items.size + 1) / 2 := by
      split <;> omega
    rw [ec]
    apply List.map_congr_left
    intro k _
    omega
  rw [er, List.filterMap_map]
  have ef : ((items[·]?) ∘ fun k => min a items.size + 2 * k) = fun k => items.toList[min a items.size + 2 * k]? := by
    funext k
    show items[_]? = _
    rw [Array.getElem?_toList]
  rw [ef, pick2 items.toList _ (min a items.size) (by rw [Array.length_toList])]
  congr 1
  by_cases h : a ≤ items.size
  · rw [Nat.min_eq_left h]
  · rw [Nat.min_eq_right (by omega), List.drop_eq_nil_of_le (by simp), List.drop_eq_nil_of_le (by rw [Array.length_toList]; omega)]
def tSl2 (K : PySem.W.Frag) (n : Nat) (te : TE) : TE := fun σ H Q => te σ H fun x H1 => ∃ (a : Addr) (xs : List V), x = .ref a ∧ SqL K H1 a xs ∧ ∀ p, H1 p = none → Q (.ref p) (upd H1 p (.lst (evensL (xs.drop n))))
theorem pe_sl2 {X : Cx} {e : Expr} {te : TE} {pos p2 pc pl : Pos} {n : Nat} {j1 j2 : Nat} (he : PE X e te) : PE X (.Subscript e (.Slice (some (.Constant (.int (n : Int)) j1 pl)) none (some (.Constant (.int 2) j2 pc)) p2) pos) (tSl2 X.K n te) := by
  refine ⟨fun pins s σ H Q I h => ?_⟩
  refine Subscript_ (thn (he.run pins s σ H _ I h) fun v s1 ⟨x, H1, I1, r1, a, xs, ex, hx, q1⟩ => ?_)
  subst ex
  have st : PO X (some (Expr.Constant (.int 2) j2 pc)) (tPart (tC (.int 2))) := po_some pe_int
  have sl : PO X (some (Expr.Constant (.int (n : Int)) j1 pl)) (tPart (tC (.int (n : Int)))) := po_some pe_int
  refine wpAny_Slice (thn (sl.run pins s1 σ H1 (fun l H2 => l = some (n : Int) ∧ H2 = H1) I1 ⟨_, rfl, rfl, rfl⟩) fun vl s2 ⟨l, H2, I2, pl, el, eH⟩ => ?_)
  subst el
  subst eH
  refine thn (po_none.run pins s2 σ H2 (fun l H3 => l = none ∧ H3 = H2) I2 ⟨rfl, rfl⟩) fun vu s3 ⟨u, H3, I3, pu', eu, eH⟩ => ?_
  subst eu
  subst eH
  refine thn (st.run pins s3 σ H3 (fun l H4 => l = some 2 ∧ H4 = H3) I3 ⟨_, rfl, rfl, rfl⟩) fun vk s4 ⟨k, H4, I4, pk, ek, eH⟩ => ?_
  subst ek
  subst eH
  have I5 : Inv X pins σ H4 { s4 with heap := s4.heap.push { cls := .type "slice", data := .fields #[vl, vu, vk] } } := I4.kept (t' := s4.toks) fun b ob q => Heap.get?_push_of_some _ q
  cases r1
  obtain ⟨its, r, ht, hz⟩ := I5.list hx; have hlen := r.length
  show wpAny (model X.prog X.w) X.A (subscriptTail e (.Slice (some (.Constant (.int (n : Int)) j1 _)) none (some (.Constant (.int 2) j2 pc)) p2) (.ref a) (.ref s4.heap.objs.size)) (EP X pins σ Q) X.xe { s4 with heap := s4.heap.push { cls := .type "slice", data := .fields #[vl, vu, vk] } }
  refine tail_any (ops := [.ref a, .ref s4.heap.objs.size]) ht.isList.typeIs slot_list_getitem.lookup ?_ (by with_unfolding_all rfl)
  refine wpAny_getItem_list_slice ht.isList (Heap.IsSliceOf.new ..) pl pu' pk (by simp) ?_ (by rw [List.size_toArray] <;> omega)
  rw [pick_two]
  refine ⟨.ref _, _, I5.laid (t' := s4.toks) (o := .lst (evensL (xs.drop n))) (fun b ob q => Heap.get?_push_of_some _ q) (Nat.le_refl _) ?_, rfl, q1 _ (I5.hok.fresh (Nat.le_refl _))⟩
  refine ⟨?_, evensL (its.drop n), 0, evensL_paired (Vals.drop n r), Heap.get?_push_size _ rfl⟩
  have := evensL_len (xs.drop n)
  rw [List.length_drop] at this
  omega
end Cc

/-! Own rule: x not in a tuple of data. -/
namespace Cc
open PySem PySem.Spec PyProof.Rows L2
def rNotInT (K : PySem.W.Frag) : R2 := fun x y H Q => ∃ d ds, Dp K H x d ∧ Dp K H y (.tuple ds) ∧ SeqAt.shaped d = true ∧ SeqAt.shaped (.tuple ds) = true ∧ Q (.bl (!ds.any fun z => PyData.eqv z d)) H
theorem op_notInT {X : Cx} (hu : X.A.units + 65 < cLine) : OpR X (compareOp .NotIn) (rNotInT X.K) := by
  rintro pins s σ H x y v u Q I rx ry ⟨d, ds, hd, he, sd, se, q⟩
  obtain ⟨_, r1⟩ := Dp.reads I d x v hd rx
  obtain ⟨_, r2⟩ := Dp.reads I (.tuple ds) y u he ry
  refine SeqAt.notIn_tuple_reads r2 r1 (SeqAt.canLay_of_shaped se) (SeqAt.canLay_of_shaped sd) (room_in_shaped sd hu) ⟨.bl _, H, I, rfl, q⟩
end Cc

/-! The law of texts: the steps of a line. -/
namespace Cc
open PySem PySem.Spec PyProof.Rows L2 TL
def spLRead (K : PySem.W.Frag) : Sp := fun vs H Q _ => ∃ (l : Addr) (ws : List Str), vs = [.ref l] ∧ H l = some (.lst (ws.map V.str)) ∧ ws ≠ [] ∧ ws.length ≤ 1000 ∧ (∀ w ∈ ws, okS w ∧ WordOk w) ∧
  (readB ws = none → ∀ H', Same H H' → Q .non H') ∧ (∀ ss, readB ws = some ss → ∀ p us H', Same H H' → H p = none → H' p = some (.lst us) → StepsV K H' us ss → Q (.ref p) H')
theorem evensL_mem {α : Type} {x : α} : ∀ {l : List α}, x ∈ evensL l → x ∈ l
  | [_], h => h
  | a :: b :: r, h => by
    rcases List.mem_cons.mp (show x ∈ a :: evensL r from h) with z | z
    · rw [z]
      exact List.mem_cons_self
    · exact List.mem_cons_of_mem _ (List.mem_cons_of_mem _ (evensL_mem z))
theorem okSer_meet {w : Str} {n tm mo : Int} (h : okSer w n tm mo = true) : okMeet w n = true := by
  unfold okSer at h
  rw [Bool.and_eq_true, Bool.and_eq_true] at h
  exact h.1.1
theorem room_meet {w : Str} {n : Int} (h : okMeet w n = true) : w = "red" ∨ w = "blue" := by
  obtain ⟨b, rfl⟩ := okMeet_room h
  cases b
  · exact .inr rfl
  · exact .inl rfl
theorem no_room {w : Str} (h : ¬ (w = "red" ∨ w = "blue")) : (∀ o, meetR w o = none) ∧ ∀ a b c, serR w a b c = none := by
  refine ⟨fun o => ?_, fun a b c => ?_⟩
  · cases e : meetR w o with
    | none => rfl
    | some ss =>
      obtain ⟨b, n, rfl, _⟩ := meetR_some e
      exact absurd (by cases b; exact .inr rfl; exact .inl rfl) h
  · cases e : serR w a b c with
    | none => rfl
    | some ss =>
      obtain ⟨d, n, tm, mo, rfl, _⟩ := serR_some e
      exact absurd (by cases d; exact .inr rfl; exact .inl rfl) h
theorem readB_bad5 {w : Str} {r : List Str} (ct : w :: r ≠ [Str.ofString "turn"]) (ca : w ≠ "alternate") (h : ¬ (w = "red" ∨ w = "blue") ∨ (evensL r).length ≠ 1 + (evensL (r.drop 1)).length) : readB (w :: r) = none := by
  have e1 : ¬ (w = "turn" ∧ r = []) := fun z => ct (by rw [z.1, z.2])
  rw [readB_cons, if_neg e1, if_neg ca]
  match r, h with
  | [], _ => rfl
  | [n], h => exact (no_room (h.resolve_right fun z => z rfl)).1 _
  | [_, _], _ => rfl
  | [n, t, k], h =>
    have q := (no_room (h.resolve_right fun z => z rfl)).2 (numW n) (numW k) (some 0)
    show (if t = "times" then _ else _) = _
    rw [q]
    exact ite_self _
  | [_, _, _, _], _ => rfl
  | [n, t, k, m, x], h =>
    have q := (no_room (h.resolve_right fun z => z rfl)).2 (numW n) (numW k) (numW x)
    show (if t = "times" ∧ m = "more" ∧ x ≠ "0" then _ else _) = _
    rw [q]
    exact ite_self _
  | _ :: _ :: _ :: _ :: _ :: _ :: _, _ => rfl
theorem readB_bad6 {w : Str} {r : List Str} (ct : w :: r ≠ [Str.ofString "turn"]) (ca : w ≠ "alternate") (h : ¬ (evensL (r.drop 1) = [] ∨ evensL (r.drop 1) = [Str.ofString "times"] ∨ evensL (r.drop 1) = [Str.ofString "times", Str.ofString "more"])) : readB (w :: r) = none := by
  have e1 : ¬ (w = "turn" ∧ r = []) := fun z => ct (by rw [z.1, z.2])
  rw [readB_cons, if_neg e1, if_neg ca]
  match r, h with
  | [], _ => rfl
  | [n], h => exact absurd (.inl rfl) h
  | [_, _], _ => rfl
  | [n, t, k], h => exact if_neg fun z => h (.inr (.inl (by rw [z]; rfl)))
  | [_, _, _, _], _ => rfl
  | [n, t, k, m, x], h => exact if_neg fun z => h (.inr (.inr (by rw [z.1, z.2.1]; rfl)))
  | _ :: _ :: _ :: _ :: _ :: _ :: _, _ => rfl
theorem shape_of {r : List Str} (h5 : (evensL r).length = 1 + (evensL (r.drop 1)).length) (h6 : evensL (r.drop 1) = [] ∨ evensL (r.drop 1) = [Str.ofString "times"] ∨ evensL (r.drop 1) = [Str.ofString "times", Str.ofString "more"]) :
    (∃ n, r = [n]) ∨ (∃ n k, r = [n, Str.ofString "times", k]) ∨ ∃ n k q, r = [n, Str.ofString "times", k, Str.ofString "more", q] := by
  match r, h5, h6 with
  | [n], _, _ => exact .inl ⟨n, rfl⟩
  | [a, b], h5, _ => exact absurd h5 (by simp [evensL])
  | [n, t, k], _, h6 =>
    have e : t = Str.ofString "times" := by
      rcases h6 with z | z | z
      · exact nomatch z
      · injection z
      · injection z with _ z
    exact .inr (.inl ⟨n, k, by rw [e]⟩)
  | [a, b, c, d], h5, _ => exact absurd h5 (by simp [evensL])
  | [n, t, k, m, q], _, h6 =>
    have e : t = Str.ofString "times" ∧ m = Str.ofString "more" := by
      rcases h6 with z | z | z
      · exact nomatch z
      · injection z with _ z
        exact nomatch z
      · injection z with z1 z
        injection z with z2 z
        exact ⟨z1, z2⟩
    exact .inr (.inr ⟨n, k, q, by rw [e.1, e.2]⟩)
  | a :: b :: c :: d :: e :: f :: r', h5, h6 =>
    rcases h6 with z | z | z
    · exact nomatch z
    · injection z with _ z
      exact nomatch z
    · cases r' with
      | nil => exact absurd h5 (by simp [evensL])
      | cons g r'' =>
        injection z with _ z
        injection z with _ z
        have z' : f :: _ = [] := z
        exact nomatch z'
theorem serR_range {w : Str} {n tm mo : Int} (h : ¬ (1 ≤ tm ∧ tm ≤ 60)) : serR w (some n) (some tm) (some mo) = none := by
  refine if_neg ?_
  unfold okSer
  rw [decide_eq_false h, Bool.and_false, Bool.false_and]
  decide
theorem readB_zero {a b k : Str} (h : a ≠ "alternate") : readB [a, b, Str.ofString "times", k, Str.ofString "more", Str.ofString "0"] = none := by
  rw [readB_cons, if_neg (fun z : _ ∧ _ => nomatch z.2)]
  refine (if_neg h).trans (if_neg fun z => z.2.2 rfl)
theorem zero_word {q : Str} (h : numW q = some 0) : q = Str.ofString "0" := by
  rw [← iS_num h]
  decide +kernel
theorem not_isNone {o : Option Int} (h : o.isNone = false) : ∃ v, o = some v := by
  cases o with
  | none => exact nomatch h
  | some v => exact ⟨v, rfl⟩
theorem meet_ser {w : Str} {n : Int} : meetR w (some n) = serR w (some n) (some 1) (some 0) := by
  have e : okSer w n 1 0 = okMeet w n := by
    unfold okSer
    show (okMeet w n && true && (okMeet w (n + ((0 : Nat) : Int) * 0) && true)) = _
    rw [show n + ((0 : Nat) : Int) * 0 = n by omega]
    cases okMeet w n <;> rfl
  show (if okMeet w n = true then _ else _) = if okSer w n 1 0 = true then _ else _
  rw [e]
  split
  · show some [Stp.meet _ n] = some [Stp.meet _ (n + ((0 : Nat) : Int) * 0)]
    rw [show n + ((0 : Nat) : Int) * 0 = n by omega]
  · rfl
/-- what a comprehension asks of its list, told by the address of the list -/
abbrev RefQ (R : Addr → Hp → Prop) : VK
  | .ref D, H => R D H
  | _, _ => True
abbrev LcJ (J : It) (g : TG) (tt : TT) (te : TE) (vs : List Nat) (σ : L2.St) (H1 : Hp) (R : Addr → Hp → Prop) : Prop := tLc (fun _ H k => k J H) g tt te vs σ H1 (RefQ R)
abbrev LcAt (K : PySem.W.Frag) (q : Addr) (g : TG) (tt : TT) (te : TE) (vs : List Nat) (σ : L2.St) (H1 : Hp) (R : Addr → Hp → Prop) : Prop := LcJ (Itl K q) g tt te vs σ H1 R
abbrev teNum : TE := (fun σ H Q => (tCons (tVar 8) tNil) σ H fun vs H1 => spLNumW vs H1 Q E0)
theorem nums_lc {K : PySem.W.Frag} {q : Addr} {xs : List Str} {σ : L2.St} {H1 : Hp} {R : Addr → Hp → Prop} (e1 : H1 q = some (.lst (xs.map V.str))) (hx : ∀ w ∈ xs, okS w ∧ w.length ≤ 600) (hl : xs.length ≤ 1000) (hσ : σ.length = 12)
    (k : ∀ D2 H', Same H1 H' → H1 D2 = none → H' D2 = some (.lst ((xs.map numW).map goalV)) → R D2 H') : LcAt K q (gName 8) tYes teNum [8] σ H1 R := by
  intro D2 hD
  have s0 := same_upd (o := .lst []) hD
  have sz := sizeLine_eq
  have hh := lc_list (K := K) (a := q) (xs := xs.map V.str) (g := gName 8) (tt := tYes) (te := teNum) (vs := [8]) (σ := σ) (H1 := H1) (D := D2)
    (Qd := fun H' => Same H1 H' ∧ H' D2 = some (.lst ((xs.map numW).map goalV))) (fun i H' => Same H1 H' ∧ H' D2 = some (.lst (((xs.map numW).take i).map goalV))) ⟨s0, upd_same⟩ (fun i H' _ ⟨s, _⟩ => SqL.of (s _ _ e1)) (fun i x H' hx' ⟨s, e⟩ => ?_) (fun H' ⟨s, e⟩ => ⟨s, ?_⟩)
  · obtain ⟨W, ⟨w0, h0⟩, hW⟩ := hh
    refine ⟨W, ⟨w0, h0⟩, fun i m H' w => ?_⟩
    rcases hW i m H' w with ⟨st, s2, e2⟩ | rr
    · exact .inl ⟨st, k D2 H' s2 hD e2⟩
    · exact .inr rr
  · rw [List.getElem?_map] at hx'
    obtain ⟨w, hw, rfl⟩ := Option.map_eq_some_iff.mp hx'
    have hm := hx w (List.mem_of_getElem? hw)
    have h8 : ((wipe σ [8]).set 8 (some (V.str w)))[8]? = some (some (V.str w)) := by
      have : (wipe σ [8]).length = 12 := by
        rw [wipe_length, hσ]
      rw [List.getElem?_set_self (by omega)]
    refine ⟨?_, _, h8, w, rfl, hm.1, hm.2, fun H2 s2 => ⟨_, s2 _ _ e, by rw [List.length_map, List.length_take, List.length_map]; omega, fun y o ey => (upd_ne (ne_of_none ey hD)).trans (s2 _ _ (s _ _ ey)), ?_⟩⟩
    · show ((σ.set 8 none).set 8 _).set 8 none = σ.set 8 none
      rw [List.set_set, List.set_set]
    · rw [upd_same, List.take_add_one, List.getElem?_map, hw, List.map_append]
      rfl
  · rw [List.length_map] at e
    rw [show xs.length = (xs.map numW).length from (List.length_map ..).symm, List.take_length] at e
    exact e
theorem set_at {σ : L2.St} {i j : Nat} {v : V} (h : i ≠ j) : ((σ.set j none).set j (some v))[i]? = σ[i]? := by
  rw [List.set_set, List.getElem?_set_ne (Ne.symm h)]
theorem set_eq {σ : L2.St} {j : Nat} {v : V} (h : j < σ.length) : ((σ.set j none).set j (some v))[j]? = some (some v) := by
  rw [List.set_set, List.getElem?_set_self h]
theorem alt_lc {K : PySem.W.Frag} {G : Addr} {ns : List Int} {n : Nat} {σ : L2.St} {H1 : Hp} {R : Addr → Hp → Prop} (eG : H1 G = some (.lst (ns.map V.int))) (hl : ns.length ≤ 60) (hn : n = ns.length) (h2 : σ[2]? = some (some (.ref G))) (hσ : σ.length = 12)
    (k : ∀ D2 H' us, Same H1 H' → H1 D2 = none → H' D2 = some (.lst us) → StepsV K H' us (altS ns) → R D2 H') :
    LcJ (Itr 0 n) (gName 10) tYes (tTup (tCons (tOp (rIxL K) (tLst (tCons (tC (.str "red")) (tCons (tC (.str "blue")) tNil))) (tOp (rI (fun _ j => 0 < j) fun i j => .int (i % j)) (tVar 10) (tC (.int 2)))) (tCons (tOp (rIxL K) (tVar 2) (tVar 10)) tNil))) [10] σ H1 R := by
  intro D2 hD
  subst hn
  have sz := sizeLine_eq
  have sD := same_upd (o := .lst []) hD
  have hh := lc_range (lo := 0) (n := ns.length) (g := gName 10) (tt := tYes) (te := (tTup (tCons (tOp (rIxL K) (tLst (tCons (tC (V.str "red")) (tCons (tC (V.str "blue")) tNil))) (tOp (rI (fun _ j => 0 < j) fun i j => V.int (i % j)) (tVar 10) (tC (V.int 2)))) (tCons (tOp (rIxL K) (tVar 2) (tVar 10)) tNil)))) (vs := [10])
    (σ := σ) (H1 := H1) (D := D2) (Qd := fun H3 => Same H1 H3 ∧ ∃ us, H3 D2 = some (.lst us) ∧ StepsV K H3 us (altS ns))
    (fun i H3 => Same H1 H3 ∧ ∃ us, us.length = i ∧ H3 D2 = some (.lst us) ∧ StepsV K H3 us (altN ns i)) ⟨sD, [], rfl, upd_same, .nil⟩ (fun i H3 hi ⟨s, us, lu, eu, su⟩ => ?_) (fun H3 ⟨s, us, lu, eu, su⟩ => ⟨s, us, eu, su⟩)
  · obtain ⟨W, ⟨w0, h0⟩, hW⟩ := hh
    refine ⟨W, ⟨w0, h0⟩, fun i m H' w => ?_⟩
    rcases hW i m H' w with ⟨st, s2, us, e2, su⟩ | rr
    · exact .inl ⟨st, k D2 H' us s2 hD e2 su⟩
    · exact .inr rr
  · obtain ⟨y, hy⟩ : ∃ y, ns[i]? = some y := ⟨_, List.getElem?_eq_getElem hi⟩
    have h10 : ∀ v : V, ((wipe σ [10]).set 10 (some v))[10]? = some (some v) := fun v => set_eq (σ := σ) (by rw [hσ]; decide)
    have h2' : ∀ v : V, ((wipe σ [10]).set 10 (some v))[2]? = some (some (.ref G)) := fun v => (set_at (by decide)).trans h2
    refine ⟨by
      show ((σ.set 10 none).set 10 _).set 10 none = σ.set 10 none
      rw [List.set_set, List.set_set], by show 2 ≤ sizeLine; decide, fun p5 hp5 => ?_⟩
    have s4 := same_upd (o := .lst [.str "red", .str "blue"]) hp5
    have e4 := upd_same (H := H3) (a := p5) (o := .lst [.str "red", .str "blue"])
    generalize upd H3 p5 (.lst [.str "red", .str "blue"]) = H4 at *
    refine ⟨_, h10 _, _, _, rfl, rfl, (by show (0 : Int) < 2; decide), p5, _, _, _, rfl, rfl, SqL.of e4, room_at (r := ((0 : Int) + (i : Nat)) % 2) (by omega), _, h2' _, _, h10 _, G, _, _, _, rfl, rfl, SqL.of (s4 _ _ (s _ _ eG)), at_of (j := i) (by omega) (by rw [List.getElem?_map, hy]; rfl), by show 2 ≤ sizeLine; decide, fun t ht2 => ?_⟩
    have er : decide (((0 : Int) + (i : Nat)) % 2 = 0) = decide (i % 2 = 0) := by
      rw [decide_eq_decide]
      omega
    rw [er]
    have e2 := (s4.trans (same_upd (o := .tup [.str (roomS (decide (i % 2 = 0))), .int y]) ht2)) _ _ eu
    have keep : ∀ u xs, upd H4 t (.tup [.str (roomS (decide (i % 2 = 0))), .int y]) u = some (.tup xs) → upd (upd H4 t (.tup [.str (roomS (decide (i % 2 = 0))), .int y])) D2 (.lst (us ++ [.ref t])) u = some (.tup xs) := fun u xs e => by
      rw [upd_ne (ne_of e e2 fun z => nomatch z)]
      exact e
    refine ⟨us, e2, by rw [lu]; omega, fun z o e => (upd_ne (ne_of_none e hD)).trans ((s4.trans (same_upd ht2)) _ _ (s _ _ e)), us ++ [.ref t], by simp [lu], upd_same, ?_⟩
    rw [altN_succ]
    refine ((su.same (s4.trans (same_upd ht2))).mono keep).append (.cons ⟨t, rfl, fun H3 kp => SqT.of (kp _ _ (keep _ _ ?_))⟩ .nil)
    rw [upd_same, List.getD_eq_getElem?_getD, hy]
    rfl
theorem ser_lc {K : PySem.W.Frag} {l N1 : Addr} {b : Bool} {n mo : Int} {wr nr : List V} {m : Nat} {σ : L2.St} {H1 : Hp} {R : Addr → Hp → Prop} (el : H1 l = some (.lst (V.str (roomS b) :: wr))) (eN : H1 N1 = some (.lst (V.int n :: nr))) (hm : m ≤ 60)
    (h0 : σ[0]? = some (some (.ref l))) (h1 : σ[1]? = some (some (.ref N1))) (h5 : σ[5]? = some (some (.int mo))) (hσ : σ.length = 12)
    (k : ∀ D2 H' us, Same H1 H' → H1 D2 = none → H' D2 = some (.lst us) → StepsV K H' us (serS b n mo m) → R D2 H') :
    LcJ (Itr 0 m) (gName 11) tYes (tTup (tCons (tOp (rIxL K) (tVar 0) (tC (.int 0))) (tCons (tOp (rI0 fun i j => .int (i + j)) (tOp (rIxL K) (tVar 1) (tC (.int 0))) (tOp (rI CMul fun i j => .int (i * j)) (tVar 11) (tVar 5))) tNil))) [11] σ H1 R := by
  intro D2 hD
  have sz := sizeLine_eq
  have sD := same_upd (o := .lst []) hD
  have hh := lc_range (lo := 0) (n := m) (g := gName 11) (tt := tYes) (te := (tTup (tCons (tOp (rIxL K) (tVar 0) (tC (V.int 0))) (tCons (tOp (rI0 fun i j => V.int (i + j)) (tOp (rIxL K) (tVar 1) (tC (V.int 0))) (tOp (rI CMul fun i j => V.int (i * j)) (tVar 11) (tVar 5))) tNil)))) (vs := [11])
    (σ := σ) (H1 := H1) (D := D2) (Qd := fun H3 => Same H1 H3 ∧ ∃ us, H3 D2 = some (.lst us) ∧ StepsV K H3 us (serS b n mo m))
    (fun i H3 => Same H1 H3 ∧ ∃ us, us.length = i ∧ H3 D2 = some (.lst us) ∧ StepsV K H3 us (serS b n mo i)) ⟨sD, [], rfl, upd_same, .nil⟩ (fun i H3 hi ⟨s, us, lu, eu, su⟩ => ?_) (fun H3 ⟨s, us, lu, eu, su⟩ => ⟨s, us, eu, su⟩)
  · obtain ⟨W, ⟨w0, z0⟩, hW⟩ := hh
    refine ⟨W, ⟨w0, z0⟩, fun i m H' w => ?_⟩
    rcases hW i m H' w with ⟨st, s2, us, e2, su⟩ | rr
    · exact .inl ⟨st, k D2 H' us s2 hD e2 su⟩
    · exact .inr rr
  · have g11 : ∀ v : V, ((wipe σ [11]).set 11 (some v))[11]? = some (some v) := fun v => set_eq (σ := σ) (by rw [hσ]; decide)
    have g0 : ∀ v : V, ((wipe σ [11]).set 11 (some v))[0]? = some (some (.ref l)) := fun v => (set_at (by decide)).trans h0
    have g1 : ∀ v : V, ((wipe σ [11]).set 11 (some v))[1]? = some (some (.ref N1)) := fun v => (set_at (by decide)).trans h1
    have g5 : ∀ v : V, ((wipe σ [11]).set 11 (some v))[5]? = some (some (.int mo)) := fun v => (set_at (by decide)).trans h5
    refine ⟨by
      show ((σ.set 11 none).set 11 _).set 11 none = σ.set 11 none
      rw [List.set_set, List.set_set], ?_⟩
    refine ⟨_, g0 _, l, _, _, _, rfl, rfl, SqL.of (s _ _ el), at_of (j := 0) rfl rfl, _, g1 _, N1, _, _, _, rfl, rfl, SqL.of (s _ _ eN), at_of (j := 0) rfl rfl, _, g11 _, _, g5 _, _, _, rfl, rfl, .inl ⟨by omega, by omega⟩, _, _, rfl, rfl, by show 2 ≤ sizeLine; decide, fun t ht2 => ?_⟩
    dsimp only
    rw [Int.zero_add]
    have e2 := (same_upd (o := .tup [.str (roomS b), .int (n + (i : Int) * mo)]) ht2) _ _ eu
    have keep : ∀ u xs, upd H3 t (.tup [.str (roomS b), .int (n + (i : Int) * mo)]) u = some (.tup xs) → upd (upd H3 t (.tup [.str (roomS b), .int (n + (i : Int) * mo)])) D2 (.lst (us ++ [.ref t])) u = some (.tup xs) := fun u xs e => by
      rw [upd_ne (ne_of e e2 fun z => nomatch z)]
      exact e
    refine ⟨us, e2, by rw [lu]; omega, fun z o e => (upd_ne (ne_of_none e hD)).trans ((same_upd ht2) _ _ (s _ _ e)), us ++ [.ref t], by simp [lu], upd_same, ?_⟩
    rw [serS_succ]
    refine ((su.same (same_upd ht2)).mono keep).append (.cons ⟨t, rfl, fun H3 kp => SqT.of (kp _ _ (keep _ _ ?_))⟩ .nil)
    rw [upd_same]
    rfl
def serN (n mo : Int) (k : Nat) : List Int := (List.range k).map fun (i : Nat) => n + (i : Int) * mo
theorem need_lc {K : PySem.W.Frag} {q : Addr} {b : Bool} {n mo : Int} {us : List V} {m : Nat} {σ : L2.St} {H1 : Hp} {R : Addr → Hp → Prop} (eq : H1 q = some (.lst us)) (su : StepsV K H1 us (serS b n mo m)) (hm : m ≤ 60) (hσ : σ.length = 12)
    (k : ∀ D2 H', Same H1 H' → H1 D2 = none → H' D2 = some (.lst ((serN n mo m).map V.int)) → R D2 H') : LcJ (Itl K q) (gName 9) tYes (tOp (rIxT K) (tVar 9) (tC (.int 1))) [9] σ H1 R := by
  intro D2 hD
  have sz := sizeLine_eq
  have sD := same_upd (o := .lst []) hD
  have lu : us.length = m := by
    rw [su.length]
    unfold serS
    simp
  have hh := lc_list (K := K) (a := q) (xs := us) (g := gName 9) (tt := tYes) (te := (tOp (rIxT K) (tVar 9) (tC (V.int 1)))) (vs := [9]) (σ := σ) (H1 := H1) (D := D2)
    (Qd := fun H' => Same H1 H' ∧ H' D2 = some (.lst ((serN n mo m).map V.int))) (fun i H' => Same H1 H' ∧ H' D2 = some (.lst ((serN n mo i).map V.int))) ⟨sD, upd_same⟩ (fun i H' _ ⟨s, _⟩ => SqL.of (s _ _ eq)) (fun i x H' hx ⟨s, e⟩ => ?_) (fun H' ⟨s, e⟩ => ⟨s, by rw [lu] at e; exact e⟩)
  · obtain ⟨W, ⟨w0, z0⟩, hW⟩ := hh
    refine ⟨W, ⟨w0, z0⟩, fun i m H' w => ?_⟩
    rcases hW i m H' w with ⟨st, s2, e2⟩ | rr
    · exact .inl ⟨st, k D2 H' s2 hD e2⟩
    · exact .inr rr
  · have g9 : ∀ v : V, ((wipe σ [9]).set 9 (some v))[9]? = some (some v) := fun v => set_eq (σ := σ) (by rw [hσ]; decide)
    obtain ⟨sp, hs, t, rfl, sq⟩ := su.get hx
    have il : i < m := by
      have := (List.getElem?_eq_some_iff.mp hx).1
      omega
    have es : sp = Stp.meet b (n + (i : Int) * mo) := by
      unfold serS at hs
      rw [List.getElem?_map, List.getElem?_range il] at hs
      exact (Option.some.inj hs).symm
    subst es
    have sqt : SqT K H' t [.str (roomS b), .int (n + (i : Int) * mo)] := sq H' fun u xs e => s _ _ e
    have en : serN n mo (i + 1) = serN n mo i ++ [n + (i : Int) * mo] := by
      unfold serN
      rw [List.range_succ, List.map_append]
      rfl
    refine ⟨by
      show ((σ.set 9 none).set 9 _).set 9 none = σ.set 9 none
      rw [List.set_set, List.set_set], _, g9 _, t, _, _, _, rfl, rfl, sqt, at_of (j := 1) rfl rfl, _, e, ?_, fun y o ey => (upd_ne (ne_of_none ey hD)).trans (s _ _ ey), ?_⟩
    · rw [List.length_map]
      unfold serN
      rw [List.length_map]; rw [List.length_range]
      omega
    · rw [upd_same, en, List.map_append]
      rfl
/-- what of numbers is in range -/
def goodN : List (Option Int) → List Int
  | [] => []
  | o :: r => if inB 0 1000000000000000000 o = true then o.getD 0 :: goodN r else goodN r
theorem goodN_snoc (os : List (Option Int)) (o : Option Int) : goodN (os ++ [o]) = goodN os ++ (if inB 0 1000000000000000000 o = true then [o.getD 0] else []) := by
  induction os with
  | nil =>
    show (if _ then _ else _) = _
    rfl
  | cons a r ih =>
    show (if _ then _ :: goodN (r ++ [o]) else goodN (r ++ [o])) = (if _ then _ else _) ++ _
    rw [ih]
    split <;> rfl
theorem goodN_len : ∀ os : List (Option Int), (goodN os).length ≤ os.length
  | [] => Nat.le_refl _
  | o :: r => by
    show (if _ then _ else _ : List Int).length ≤ r.length + 1
    have := goodN_len r
    split
    · rw [List.length_cons]
      omega
    · omega
theorem goodN_all {os : List (Option Int)} (h : os.all (inB 0 1000000000000000000) = true) : goodN os = allN os := by
  induction os with
  | nil => rfl
  | cons o r ih =>
    rw [List.all_cons, Bool.and_eq_true] at h; show (if _ then _ else _) = _
    rw [if_pos h.1, ih h.2]
    rfl
theorem goodN_less {os : List (Option Int)} (h : os.all (inB 0 1000000000000000000) = false) : (goodN os).length < os.length := by
  induction os with
  | nil => exact nomatch h
  | cons o r ih =>
    rw [List.all_cons, Bool.and_eq_false_iff] at h
    show (if _ then _ else _ : List Int).length < r.length + 1
    have := goodN_len r
    split
    · rename_i c
      have := ih (h.resolve_left (by rw [c]; decide))
      rw [List.length_cons]
      omega
    · omega
abbrev ttGood : TT := (tAnd (tTest (tOp (fun x y H Q => y = .non ∧ Q (.bl (!decide (x = .non))) H) (tVar 9) (tC .non))) (tTest (tChain (rI0 fun i j => .bl (decide (i ≤ j))) (rI0 fun i j => .bl (decide (i ≤ j))) (tC (.int 0)) (tVar 9) (tOp (rI CPow fun i j => .int (i ^ j.toNat)) (tC (.int 10)) (tC (.int 18))))))
theorem good_lc {K : PySem.W.Frag} {q : Addr} {os : List (Option Int)} {σ : L2.St} {H1 : Hp} {R : Addr → Hp → Prop} (e1 : H1 q = some (.lst (os.map goalV))) (hl : os.length ≤ 1000) (hσ : σ.length = 12)
    (k : ∀ D2 H', Same H1 H' → H1 D2 = none → H' D2 = some (.lst ((goodN os).map V.int)) → R D2 H') : LcAt K q (gName 9) ttGood (tVar 9) [9] σ H1 R := by
  intro D2 hD
  have s0 := same_upd (o := .lst []) hD
  have sz := sizeLine_eq
  have hh := lc_list (K := K) (a := q) (xs := os.map goalV) (g := gName 9) (tt := ttGood) (te := tVar 9) (vs := [9]) (σ := σ) (H1 := H1) (D := D2)
    (Qd := fun H' => Same H1 H' ∧ H' D2 = some (.lst ((goodN os).map V.int))) (fun i H' => Same H1 H' ∧ H' D2 = some (.lst ((goodN (os.take i)).map V.int))) ⟨s0, upd_same⟩ (fun i H' _ ⟨s, _⟩ => SqL.of (s _ _ e1)) (fun i x H' hx' ⟨s, e⟩ => ?_) (fun H' ⟨s, e⟩ => ⟨s, ?_⟩)
  · obtain ⟨W, ⟨w0, h0⟩, hW⟩ := hh
    refine ⟨W, ⟨w0, h0⟩, fun i m H' w => ?_⟩
    rcases hW i m H' w with ⟨st, s2, e2⟩ | rr
    · exact .inl ⟨st, k D2 H' s2 hD e2⟩
    · exact .inr rr
  · rw [List.getElem?_map] at hx'
    obtain ⟨o, ho, rfl⟩ := Option.map_eq_some_iff.mp hx'
    have h9 : ∀ v : V, ((wipe σ [9]).set 9 (some v))[9]? = some (some v) := fun v => by
      have : (wipe σ [9]).length = 12 := by
        rw [wipe_length, hσ]
      rw [List.getElem?_set_self (by omega)]
    have et : goodN (os.take (i + 1)) = goodN (os.take i) ++ (if inB 0 1000000000000000000 o = true then [o.getD 0] else []) := by
      rw [List.take_add_one, ho, Option.toList_some, goodN_snoc]
    have ll : (goodN (os.take i)).length ≤ 1000 := by
      refine Nat.le_trans (goodN_len _) ?_
      rw [List.length_take]
      omega
    refine ⟨by
      show ((σ.set 9 none).set 9 _).set 9 none = σ.set 9 none
      rw [List.set_set, List.set_set], ?_⟩
    cases o with
    | none =>
      refine ⟨_, h9 _, rfl, _, rfl, ifF rfl ⟨s, ?_⟩⟩
      rw [et]
      rw [if_neg (by decide), List.append_nil]
      exact e
    | some n =>
      refine ⟨_, h9 _, rfl, _, rfl, ifT rfl ?_⟩
      refine ⟨_, h9 _, _, _, rfl, rfl, _, rfl, ?_⟩
      have eb : inB 0 1000000000000000000 (some n) = decide (0 ≤ n ∧ n ≤ 1000000000000000000) := rfl
      rw [eb] at et
      have no : ¬ (0 ≤ n ∧ n ≤ 1000000000000000000) → Same H1 H' ∧ H' D2 = some (.lst ((goodN (os.take (i + 1))).map V.int)) := fun z => ⟨s, by
        rw [et, if_neg (by simpa using z), List.append_nil]
        exact e⟩
      by_cases c0 : 0 ≤ n
      · refine ifT (decide_eq_true c0) ⟨_, _, rfl, rfl, ⟨by decide, by decide⟩, _, _, rfl, rfl, _, rfl, ?_⟩
        by_cases c1 : n ≤ 1000000000000000000
        · refine ifT (decide_eq_true c1) ⟨_, h9 _, _, e, by rw [List.length_map]; omega, fun y o ey => (upd_ne (ne_of_none ey hD)).trans (s _ _ ey), ?_⟩
          rw [upd_same, et, if_pos (decide_eq_true ⟨c0, c1⟩), List.map_append]
          rfl
        · exact ifF (decide_eq_false c1) (no fun z => c1 z.2)
      · exact ifF (decide_eq_false c0) ⟨_, rfl, iteF (no fun z => c0 z.1)⟩
  · rw [List.length_map] at e
    rw [List.take_length] at e
    exact e
def Sh (os : List (Option Int)) (n tm mo : Int) : Prop := (os = [some n] ∧ tm = 1 ∧ mo = 0) ∨ (os = [some n, some tm] ∧ mo = 0) ∨ os = [some n, some tm, some mo]
section
variable {P : Program} {w : World} {K : PySem.W.Frag} {mg : Str → Option Value} {base : Heap} {C TU pS gS : Addr} {mc : Value}
abbrev s__law_read : Stmt := top 44
abbrev n__law_read : List Str := ["_law_words", "_law_numbers", "_law_good", "_law_form", "_law_many", "_law_plus", "_law_steps", "_law_needs", "_law_word", "_law_one", "_law_k", "_law_turn"]
theorem sc__law_read : FnScope n__law_read ["_law_words"] (defScope s__law_read) := ⟨rfl, rfl, rfl, by decide +kernel, rfl, by decide +kernel, by decide +kernel⟩
theorem ok__law_read {f f__law_number : Addr} {fd : FuncData} (F : Fun K "_law_read" "_law_read" s__law_read f fd) (B : Bt mg) (D__law_number : Dn P w K mg base 1 "_law_number" f__law_number spLNumW) : FnOk P w K mg base CX0 2 f fd ["_law_words"] (spLRead K) := by
  refine F.ok sc__law_read (fun vs H Q E h => ?_) (fun cdv A outer s H vs Q E hr h => ?_)
  · obtain ⟨l, ws, rfl, _⟩ := h
    rfl
  · obtain ⟨l, ws, rfl, hl, ne, hn, hw, k1, k2⟩ := h
    refine ⟨_, pss_cons (ps_if (pt_cmpR (op_eqD hr.units) (pv 0) (pe_lst (pa_cons pe_str pa_nil)) (nomark _))
        (pss_one (ps_ret (pe_lst (pa_cons (pe_tup (pa_cons pe_str pa_nil)) pa_nil)))) pss_nil)
      (pss_cons (ps_set (i := 1) sc__law_read.nd rfl (.inr rfl) (pe_lc (own := [("_law_word", 8)]) (g := gName 8) (tt := tYes) (te := (fun σ H Q => (tCons (tVar 8) tNil) σ H fun vs H1 => spLNumW vs H1 Q E0)) rfl sc__law_read.nd (pi_list (pe_sl2 (n := 1) (pv 0))) (blkOk_by (N := n__law_read) (sc := defScope s__law_read) (by decide +kernel)) (fun _ _ _ _ _ => pg_name (i := 8) sc__law_read.nd rfl (.inl rfl)) (fun _ _ _ _ _ => by exact pts_nil) (fun _ _ _ _ _ => by exact (pe_callR D__law_number.ok (hr.mono (by decide)) rfl D__law_number.at_ D__law_number.kp pass0 (pa_cons (pv 8) pa_nil)))))
      (pss_cons (ps_if (pt_cmpR op_eq (pe_ix ix_list (pv 0) pe_int (fun _ _ => rfl)) pe_str (nomark _))
        (pss_cons (ps_set (i := 1) sc__law_read.nd rfl (.inr rfl) (pe_lc (own := [("_law_word", 8)]) (g := gName 8) (tt := tYes) (te := (fun σ H Q => (tCons (tVar 8) tNil) σ H fun vs H1 => spLNumW vs H1 Q E0)) rfl sc__law_read.nd (pi_list (pe_slice sl_list (pv 0) (po_some pe_int) po_none)) (blkOk_by (N := n__law_read) (sc := defScope s__law_read) (by decide +kernel)) (fun _ _ _ _ _ => pg_name (i := 8) sc__law_read.nd rfl (.inl rfl)) (fun _ _ _ _ _ => by exact pts_nil) (fun _ _ _ _ _ => by exact (pe_callR D__law_number.ok (hr.mono (by decide)) rfl D__law_number.at_ D__law_number.kp pass0 (pa_cons (pv 8) pa_nil)))))
        (pss_cons (ps_set (i := 2) sc__law_read.nd rfl (.inr rfl) (pe_lc (own := [("_law_one", 9)]) (g := gName 9) (tt := (tAnd (tTest (tOp (fun x y H Q => y = .non ∧ Q (.bl (!decide (x = .non))) H) (tVar 9) (tC .non))) (tTest (tChain (rI0 fun i j => .bl (decide (i ≤ j))) (rI0 fun i j => .bl (decide (i ≤ j))) (tC (.int 0)) (tVar 9) (tOp (rI CPow fun i j => .int (i ^ j.toNat)) (tC (.int 10)) (tC (.int 18))))))) (te := (tVar 9)) rfl sc__law_read.nd (pi_list (pv 1)) (blkOk_by (N := n__law_read) (sc := defScope s__law_read) (by decide +kernel)) (fun _ _ _ _ _ => pg_name (i := 9) sc__law_read.nd rfl (.inl rfl)) (fun _ _ _ _ _ => by exact (pts_one (PW.pt (pw_and (pt_cmpR op_notN (pv 9) pe_non (nomark _)) (pw_and1 (pt_chain op_le op_le pe_int (pv 9) (pe_op op_pow pe_int pe_int))))))) (fun _ _ _ _ _ => by exact (pv 9))))
        (pss_cons (ps_if (PW.pt (pw_or (pt_cmpR op_lt (pe_callB call_len_seq (by rfl) B.len PySem.boot_len (pa_cons (pv 2) pa_nil)) (pe_callB call_len_seq (by rfl) B.len PySem.boot_len (pa_cons (pv 1) pa_nil)) (nomark _)) (pw_or1 (pt_not (pt_chain op_le op_le pe_int (pe_callB call_len_seq (by rfl) B.len PySem.boot_len (pa_cons (pv 2) pa_nil)) pe_int)))))
          (pss_one (ps_ret pe_non)) pss_nil)
        (pss_one (ps_ret (pe_lc (own := [("_law_k", 10)]) (g := gName 10) (tt := tYes) (te := (tTup (tCons (tOp (rIxL K) (tLst (tCons (tC (.str "red")) (tCons (tC (.str "blue")) tNil))) (tOp (rI (fun _ j => 0 < j) fun i j => .int (i % j)) (tVar 10) (tC (.int 2)))) (tCons (tOp (rIxL K) (tVar 2) (tVar 10)) tNil)))) rfl sc__law_read.nd (pi_range1 rfl B.range (pa_cons (pe_callB call_len_seq (by rfl) B.len PySem.boot_len (pa_cons (pv 2) pa_nil)) pa_nil)) (blkOk_by (N := n__law_read) (sc := defScope s__law_read) (by decide +kernel)) (fun _ _ _ _ _ => pg_name (i := 10) sc__law_read.nd rfl (.inl rfl)) (fun _ _ _ _ _ => by exact pts_nil) (fun _ _ _ _ _ => by exact (pe_tup (pa_cons (pe_ix ix_list (pe_lst (pa_cons pe_str (pa_cons pe_str pa_nil))) (pe_op op_mod (pv 10) pe_int) (fun _ _ => rfl)) (pa_cons (pe_ix ix_list (pv 2) (pv 10) (fun _ _ => rfl)) pa_nil)))))))))) pss_nil)
      (pss_cons (ps_set (i := 3) sc__law_read.nd rfl (.inl rfl) (pe_op op_cat (pe_lst (pa_cons (pe_ix ix_list (pv 0) pe_int (fun _ _ => rfl)) pa_nil)) (pe_sl2 (n := 2) (pv 0))))
      (C8.pss_cut (ps_if (PW.pt (pw_or (pt_cmpR op_notIn_seq (pe_ix ix_list (pv 0) pe_int (fun _ _ => rfl)) (pe_tup (pa_cons pe_str (pa_cons pe_str pa_nil))) (by rfl)) (pw_or1 (pt_cmpR op_ne (pe_callB call_len_seq (by rfl) B.len PySem.boot_len (pa_cons (pv 1) pa_nil)) (pe_callB call_len_seq (by rfl) B.len PySem.boot_len (pa_cons (pv 3) pa_nil)) (nomark _)))))
        (pss_one (ps_ret pe_non)) pss_nil)
      (C8.pss_cut (ps_if (pt_cmpR (op_notInT (room65 hr)) (pe_slice sl_list (pv 3) (po_some pe_int) po_none) (pe_tup (pa_cons (pe_lst pa_nil) (pa_cons (pe_lst (pa_cons pe_str pa_nil)) (pa_cons (pe_lst (pa_cons pe_str (pa_cons pe_str pa_nil))) pa_nil)))) (by rfl))
        (pss_one (ps_ret pe_non)) pss_nil)
      (C8.pss_cut (ps_if (pt_cmpR op_in_seq pe_non (pv 1) (by rfl))
        (pss_one (ps_ret pe_non)) pss_nil)
      (C8.pss_cut (ps_set (i := 4) sc__law_read.nd rfl (.inl rfl) (pe_ifExp (pt_cmpR op_gt (pe_callB call_len_seq (by rfl) B.len PySem.boot_len (pa_cons (pv 1) pa_nil)) pe_int (nomark _)) (pe_ix ix_list (pv 1) pe_int (fun _ _ => rfl)) pe_int))
      (C8.pss_cut (ps_set (i := 5) sc__law_read.nd rfl (.inr rfl) (pe_ifExp (pt_cmpR op_gt (pe_callB call_len_seq (by rfl) B.len PySem.boot_len (pa_cons (pv 1) pa_nil)) pe_int (nomark _)) (pe_ix ix_list (pv 1) pe_int (fun _ _ => rfl)) pe_int))
      (C8.pss_cut (ps_if (PW.pt (pw_or (PW.pt (pw_and (pt_cmpR op_gt (pe_callB call_len_seq (by rfl) B.len PySem.boot_len (pa_cons (pv 1) pa_nil)) pe_int (nomark _)) (pw_and1 (pt_cmpR op_eq (pv 5) pe_int (nomark _))))) (pw_or1 (pt_not (pt_chain op_le op_le pe_int (pv 4) pe_int)))))
        (pss_one (ps_ret pe_non)) pss_nil)
      (pss_cons (ps_setLc (i := 6) (own := [("_law_turn", 11)]) (g := gName 11) (tt := tYes) (te := (tTup (tCons (tOp (rIxL K) (tVar 0) (tC (.int 0))) (tCons (tOp (rI0 fun i j => .int (i + j)) (tOp (rIxL K) (tVar 1) (tC (.int 0))) (tOp (rI CMul fun i j => .int (i * j)) (tVar 11) (tVar 5))) tNil)))) rfl sc__law_read.nd rfl rfl (sw_true rfl rfl rfl (by decide +kernel)) (pi_range1 rfl B.range (pa_cons (pv 4) pa_nil)) (blkOk_by (N := n__law_read) (sc := defScope s__law_read) (by decide +kernel)) (fun _ _ _ _ _ => pg_name (i := 11) sc__law_read.nd rfl (.inl rfl)) (fun _ _ _ _ _ => by exact pts_nil) (fun _ _ _ _ _ => by exact (pe_tup (pa_cons (pe_ix ix_list (pv 0) pe_int (fun _ _ => rfl)) (pa_cons (pe_op op_add (pe_ix ix_list (pv 1) pe_int (fun _ _ => rfl)) (pe_op op_mul (pv 11) (pv 5))) pa_nil)))))
      (pss_cons (ps_setLc (i := 7) (own := [("_law_one", 9)]) (g := gName 9) (tt := tYes) (te := (tOp (rIxT K) (tVar 9) (tC (.int 1)))) rfl sc__law_read.nd rfl rfl (sw_true rfl rfl rfl (by decide +kernel)) (pi_list (pv 6)) (blkOk_by (N := n__law_read) (sc := defScope s__law_read) (by decide +kernel)) (fun _ _ _ _ _ => pg_name (i := 9) sc__law_read.nd rfl (.inl rfl)) (fun _ _ _ _ _ => by exact pts_nil) (fun _ _ _ _ _ => by exact (pe_ix ix_tup (pv 9) pe_int (fun _ _ => rfl))))
      (pss_one (ps_ret (pe_ifExp (PW.pt (pw_and (pt_cmpR op_ge (pe_callB (cr_min rfl) (by rfl) B.min (by decide +kernel) (pa_cons (pv 7) pa_nil)) pe_int (nomark _)) (pw_and1 (pt_cmpR op_le (pe_callB (cr_max rfl) (by rfl) B.max (by decide +kernel) (pa_cons (pv 7) pa_nil)) (pe_op op_pow pe_int pe_int) (nomark _))))) (pv 6) pe_non)))))))))))))), ?_⟩
    have sz := sizeLine_eq
    have oks : ∀ x ∈ ws, okS x := fun x h => (hw x h).1
    have num : ∀ x ∈ ws, okS x ∧ x.length ≤ 600 := fun x h => ⟨(hw x h).1, (hw x h).2.1⟩
    have eqt : PyData.eqv (.list (ws.map PyData.str)) (.list ([Str.ofString "turn"].map PyData.str)) = decide (ws = [Str.ofString "turn"]) := strs_eqv ws [Str.ofString "turn"]
    refine ⟨_, rfl, by show 1 ≤ sizeLine; decide, fun p0 hp0 => ⟨_, _, .lst (SqL.of ((same_upd hp0) _ _ hl)) (dp_strs _), .lst (SqL.of upd_same) (dp_strs [Str.ofString "turn"]), strs_shaped oks, by decide +kernel, _, rfl, ?_⟩⟩
    have s0 := same_upd (o := .lst [.str "turn"]) hp0
    by_cases ct : ws = [Str.ofString "turn"]
    · refine ifT (eqt.trans (decide_eq_true ct)) ?_
      rw [ct] at k2
      refine ⟨by show 1 ≤ sizeLine; decide, fun t ht => ⟨by show 1 ≤ sizeLine; decide, fun q hq => ?_⟩⟩
      have s1 := s0.trans (same_upd (o := .tup [.str "turn"]) ht)
      have e1 := upd_same (H := upd H p0 (.lst [.str "turn"])) (a := t) (o := .tup [.str "turn"])
      generalize upd (upd H p0 (.lst [.str "turn"])) t (.tup [.str "turn"]) = H1 at *
      exact k2 _ readB_turn q [.ref t] _ (s1.trans (same_upd hq)) (same_none s1 hq) upd_same (.cons ⟨t, rfl, TupW.of ((same_upd hq) _ _ e1)⟩ .nil)
    refine ifF (eqt.trans (decide_eq_false ct)) ?_
    have l0 := s0 _ _ hl
    generalize upd H p0 (.lst [.str "turn"]) = H0 at *
    clear hp0 eqt
    have ed : evensL ((ws.map V.str).drop 1) = (evensL (ws.drop 1)).map V.str := by rw [← List.map_drop, evensL_map]
    have ed2 : evensL ((ws.map V.str).drop 2) = (evensL (ws.drop 2)).map V.str := by rw [← List.map_drop, evensL_map]
    have evm : ∀ {x : Str} {n : Nat}, x ∈ evensL (ws.drop n) → x ∈ ws := fun h => List.mem_of_mem_drop (evensL_mem h)
    have evl : ∀ n, (evensL (ws.drop n)).length ≤ 1000 := fun n => by
      have := evensL_len (ws.drop n)
      rw [List.length_drop] at this
      omega
    refine ⟨_, rfl, l, _, rfl, SqL.of l0, fun q hq => ⟨q, rfl, ⟨_, SqL.of upd_same⟩, ?_⟩⟩
    rw [ed]
    have s1 := s0.trans (same_upd (o := .lst ((evensL (ws.drop 1)).map V.str)) hq)
    have l1 := (same_upd (o := .lst ((evensL (ws.drop 1)).map V.str)) hq) _ _ l0
    have q1 := upd_same (H := H0) (a := q) (o := .lst ((evensL (ws.drop 1)).map V.str))
    generalize upd H0 q (.lst ((evensL (ws.drop 1)).map V.str)) = H1 at *
    refine nums_lc (K := K) (σ := start n__law_read [.ref l]) q1 (fun w h => num w (evm h)) (evl 1) rfl fun N1 H2 s12 hN eN => ?_
    have s2 := s1.trans s12
    have l2 := s12 _ _ l1
    clear q1 l1 hq s1 s12
    obtain ⟨w0, r, rfl⟩ : ∃ w r, ws = w :: r := by
      cases ws with
      | nil => exact absurd rfl ne
      | cons w r => exact ⟨w, r, rfl⟩
    refine ⟨_, rfl, l, _, _, _, rfl, rfl, SqL.of l2, at_of (j := 0) rfl rfl, rfl, _, rfl, ?_⟩
    by_cases ca : w0 = "alternate"
    · refine ifT (by rw [str_ne]; exact decide_eq_true ca) ?_
      subst ca
      rw [readB_alt] at k1 k2
      refine ⟨_, rfl, 1, rfl, l, _, rfl, SqL.of l2, fun q2 hq2 => ⟨q2, rfl, ⟨_, SqL.of upd_same⟩, ?_⟩⟩
      have ec : cutV ((Str.ofString "alternate" :: r).map V.str) (some 1) none = r.map V.str := cut_rest
      rw [ec]
      have s3 := s2.trans (same_upd (o := .lst (r.map V.str)) hq2)
      have q3 := upd_same (H := H2) (a := q2) (o := .lst (r.map V.str))
      generalize upd H2 q2 (.lst (r.map V.str)) = H3 at *
      have rl : r.length ≤ 999 := by have := hn; rw [List.length_cons] at this; omega
      refine nums_lc (K := K) q3 (fun w h => num w (List.mem_cons_of_mem _ h)) (by omega) (by rfl) fun N2 H4 s34 hN2 eN2 => ?_
      have s4 := s3.trans s34
      clear q3 s34 hq2 hN hN2 s3
      refine ⟨_, rfl, N2, rfl, ⟨_, SqL.of eN2⟩, good_lc (K := K) eN2 (by rw [List.length_map]; omega) (by rfl) fun G H5 s45 hG eG => ?_⟩
      have s5 := s4.trans s45
      have eN5 := s45 _ _ eN2
      clear s45 hG eN2
      have gl := goodN_len (r.map numW)
      refine ⟨_, rfl, G, _, rfl, .inl (SqL.of eG), _, rfl, N2, _, rfl, .inl (SqL.of eN5), _, _, rfl, rfl, _, rfl, ?_⟩
      rw [List.length_map, List.length_map, List.length_map] at *
      have no : okAltO (r.map numW) = false → Q .non H5 := fun z => k1 (if_neg (Bool.eq_false_iff.mp z)) H5 s5
      cases hall : (r.map numW).all (inB 0 1000000000000000000) with
      | false =>
        have := goodN_less hall
        rw [List.length_map] at this
        refine ifT (decide_eq_true (by omega)) (iteT (no ?_))
        unfold okAltO
        rw [hall, Bool.and_false]
      | true =>
        have ga := goodN_all hall
        rw [ga] at eG gl ⊢
        have la : (allN (r.map numW)).length = r.length := by rw [allN_map, List.length_map, List.length_map]
        have okv : okAltO (r.map numW) = decide (1 ≤ r.length ∧ r.length ≤ 60) := by
          unfold okAltO
          rw [hall, Bool.and_true, List.length_map]
        refine ifF (decide_eq_false (by omega)) ?_
        refine ⟨_, rfl, G, _, rfl, .inl (SqL.of eG), _, _, rfl, rfl, _, rfl, ?_⟩
        rw [List.length_map, la]
        by_cases c1 : 1 ≤ r.length
        · refine ifT (decide_eq_true (by omega)) ⟨_, _, rfl, rfl, _, rfl, ?_⟩
          by_cases c2 : r.length ≤ 60
          · refine ifF (by rw [decide_eq_true (show (r.length : Int) ≤ 60 by omega)]; rfl) ?_
            refine ⟨_, rfl, G, _, rfl, .inl (SqL.of eG), _, rfl, by rw [List.length_map, la]; omega, by rw [List.length_map, la]; omega, ?_⟩
            refine alt_lc (K := K) eG (by omega) (by rw [Int.toNat_natCast, List.length_map]) (by rfl) (by rfl) fun D2 H6 us s6 hD2 e6 su => ?_
            exact k2 _ (if_pos (by rw [okv]; exact decide_eq_true ⟨c1, c2⟩)) D2 us H6 (s5.trans s6) (same_none s5 hD2) e6 su
          · exact ifT (by rw [decide_eq_false (show ¬ (r.length : Int) ≤ 60 by omega)]; rfl) (no (by rw [okv]; exact decide_eq_false (by omega)))
        · exact ifF (decide_eq_false (by omega)) ⟨_, rfl, iteT (no (by rw [okv]; exact decide_eq_false (by omega)))⟩
    refine ifF (by rw [str_ne]; exact decide_eq_false ca) ?_
    have nl : ((evensL r).map numW).length = (evensL r).length := List.length_map ..
    have ed2' : evensL (((w0 :: r).map V.str).drop 2) = (evensL (r.drop 1)).map V.str := ed2
    have eN' : H2 N1 = some (.lst (((evensL r).map numW).map goalV)) := eN
    have fl : (evensL (r.drop 1)).length ≤ 1000 := evl 2
    have rl : (evensL r).length ≤ 1000 := evl 1
    refine ⟨_, rfl, l, _, _, _, rfl, rfl, SqL.of l2, at_of (j := 0) rfl rfl, by show 1 ≤ sizeLine; decide, fun a ha => ⟨_, rfl, l, _, rfl, SqL.of ((same_upd ha) _ _ l2), fun b hb => ?_⟩⟩
    rw [ed2']
    have s3 := s2.trans ((same_upd (o := .lst [V.str w0]) ha).trans (same_upd (o := .lst ((evensL (r.drop 1)).map V.str)) hb))
    have l3 := ((same_upd (o := .lst [V.str w0]) ha).trans (same_upd (o := .lst ((evensL (r.drop 1)).map V.str)) hb)) _ _ l2
    have n3 := ((same_upd (o := .lst [V.str w0]) ha).trans (same_upd (o := .lst ((evensL (r.drop 1)).map V.str)) hb)) _ _ eN'
    have a3 := (same_upd (o := .lst ((evensL (r.drop 1)).map V.str)) hb) _ _ (upd_same (H := H2) (a := a) (o := .lst [V.str w0]))
    have b3 := upd_same (H := upd H2 a (.lst [V.str w0])) (a := b) (o := .lst ((evensL (r.drop 1)).map V.str))
    generalize upd (upd H2 a (.lst [V.str w0])) b (.lst ((evensL (r.drop 1)).map V.str)) = H3 at *
    refine ⟨a, b, _, _, rfl, rfl, a3, b3, by rw [List.length_map]; show 1 + _ ≤ _; omega, fun F0 hF0 => ?_⟩
    have s4 := s3.trans (same_upd (o := .lst ([V.str w0] ++ (evensL (r.drop 1)).map V.str)) hF0)
    have l4 := (same_upd (o := .lst ([V.str w0] ++ (evensL (r.drop 1)).map V.str)) hF0) _ _ l3
    have n4 := (same_upd (o := .lst ([V.str w0] ++ (evensL (r.drop 1)).map V.str)) hF0) _ _ n3
    have f4 := upd_same (H := H3) (a := F0) (o := .lst ([V.str w0] ++ (evensL (r.drop 1)).map V.str))
    generalize upd H3 F0 (.lst ([V.str w0] ++ (evensL (r.drop 1)).map V.str)) = H4 at *
    have f4' : H4 F0 = some (.lst ((w0 :: evensL (r.drop 1)).map V.str)) := f4
    clear ha hb hF0 a3 b3 l3 n3 f4 l2 eN eN' hN l0
    refine ⟨fun σ H' => σ = [some (.ref l), some (.ref N1), none, some (.ref F0), none, none, none, none, none, none, none, none] ∧ Same H H' ∧ H' l = some (.lst ((w0 :: r).map V.str)) ∧ H' N1 = some (.lst (((evensL r).map numW).map goalV)) ∧ H' F0 = some (.lst ((w0 :: evensL (r.drop 1)).map V.str)) ∧
      (w0 = "red" ∨ w0 = "blue") ∧ (evensL r).length = 1 + (evensL (r.drop 1)).length, ?_, ?_⟩
    · refine ⟨_, rfl, l, _, _, _, rfl, rfl, SqL.of l4, at_of (j := 0) rfl rfl, by show 2 ≤ sizeLine; decide, fun p hp => ⟨p, _, rfl, .inr (SqT.of upd_same), rfl, rfl, _, rfl, ?_⟩⟩
      have s5 := s4.trans (same_upd (o := .tup [.str "red", .str "blue"]) hp)
      have l5 := (same_upd (o := .tup [.str "red", .str "blue"]) hp) _ _ l4
      have n5 := (same_upd (o := .tup [.str "red", .str "blue"]) hp) _ _ n4
      have f5 := (same_upd (o := .tup [.str "red", .str "blue"]) hp) _ _ f4'
      generalize upd H4 p (.tup [.str "red", .str "blue"]) = H5 at *
      by_cases hr0 : w0 = "red" ∨ w0 = "blue"
      · refine ifF (by rcases hr0 with rfl | rfl <;> decide +kernel) ⟨_, rfl, N1, _, rfl, .inl (SqL.of n5), _, rfl, F0, _, rfl, .inl (SqL.of f5), rfl, _, rfl, ?_⟩
        rw [List.length_map, List.length_map, List.length_map, List.length_cons]
        by_cases c : (evensL r).length = 1 + (evensL (r.drop 1)).length
        · refine ifF ?_ ⟨rfl, s5, l5, n5, f5, hr0, c⟩
          rw [decide_eq_true (show V.int ((evensL r).length : Nat) = V.int (((evensL (r.drop 1)).length + 1 : Nat) : Int) by rw [c, Nat.add_comm])]
          rfl
        · refine ifT ?_ (k1 (readB_bad5 ct ca (.inr c)) H5 s5)
          rw [decide_eq_false (show ¬ V.int ((evensL r).length : Nat) = V.int (((evensL (r.drop 1)).length + 1 : Nat) : Int) from fun z => c (by injection z; omega))]
          rfl
      · have h1 : ¬ w0 = "red" := fun z => hr0 (.inl z)
        have h2 : ¬ w0 = "blue" := fun z => hr0 (.inr z)
        exact ifT (by simp [inV, eqV, fun z => h1 (Eq.symm z), fun z => h2 (Eq.symm z), Ne.symm h1, Ne.symm h2]) (iteT (k1 (readB_bad5 ct ca (.inl hr0)) H5 s5))
    rintro σ H5 ⟨rfl, s5, l5, n5, f5, hr0, h5⟩
    clear l4 n4 f4' s4 s3
    refine ⟨fun σ H' => σ = [some (.ref l), some (.ref N1), none, some (.ref F0), none, none, none, none, none, none, none, none] ∧ Same H H' ∧ H' l = some (.lst ((w0 :: r).map V.str)) ∧ H' N1 = some (.lst (((evensL r).map numW).map goalV)) ∧
      (evensL (r.drop 1) = [] ∨ evensL (r.drop 1) = [Str.ofString "times"] ∨ evensL (r.drop 1) = [Str.ofString "times", Str.ofString "more"]), ?_, ?_⟩
    · refine ⟨_, rfl, 1, rfl, F0, _, rfl, SqL.of f5, fun p hp => ?_⟩
      have ec : cutV ((w0 :: evensL (r.drop 1)).map V.str) (some 1) none = (evensL (r.drop 1)).map V.str := cut_rest
      rw [ec]
      have t1 := same_upd (o := .lst ((evensL (r.drop 1)).map V.str)) hp
      have p1 := upd_same (H := H5) (a := p) (o := .lst ((evensL (r.drop 1)).map V.str))
      generalize upd H5 p (.lst ((evensL (r.drop 1)).map V.str)) = J1 at *
      refine ⟨by show 0 ≤ sizeLine; decide, fun a1 ha1 => ⟨by show 1 ≤ sizeLine; decide, fun a2 ha2 => ⟨by show 2 ≤ sizeLine; decide, fun a3 ha3 => ⟨by show 3 ≤ sizeLine; decide, fun q hq => ?_⟩⟩⟩⟩
      have u1 := same_upd (o := .lst []) ha1
      have g1 := upd_same (H := J1) (a := a1) (o := .lst [])
      generalize upd J1 a1 (.lst []) = J2 at *
      have u2 := same_upd (o := .lst [.str "times"]) ha2
      have g2 := upd_same (H := J2) (a := a2) (o := .lst [.str "times"])
      generalize upd J2 a2 (.lst [.str "times"]) = J3 at *
      have u3 := same_upd (o := .lst [.str "times", .str "more"]) ha3
      have g3 := upd_same (H := J3) (a := a3) (o := .lst [.str "times", .str "more"])
      generalize upd J3 a3 (.lst [.str "times", .str "more"]) = J4 at *
      have u4 := same_upd (o := .tup [.ref a1, .ref a2, .ref a3]) hq
      have g4 := upd_same (H := J4) (a := q) (o := .tup [.ref a1, .ref a2, .ref a3])
      generalize upd J4 q (.tup [.ref a1, .ref a2, .ref a3]) = J5 at *
      have sA : Same H5 J5 := t1.trans (u1.trans (u2.trans (u3.trans u4)))
      have oF : ∀ x ∈ evensL (r.drop 1), okS x := fun x hx => (hw x (List.mem_cons_of_mem _ (List.mem_of_mem_drop (evensL_mem hx)))).1
      refine ⟨.list ((evensL (r.drop 1)).map PyData.str), [.list ([].map PyData.str), .list ([Str.ofString "times"].map PyData.str), .list ([Str.ofString "times", Str.ofString "more"].map PyData.str)], .lst (SqL.of ((u1.trans (u2.trans (u3.trans u4))) _ _ p1)) (dp_strs _),
        .tup (SqT.of g4) (.cons (.lst (SqL.of ((u2.trans (u3.trans u4)) _ _ g1)) .nil) (.cons (.lst (SqL.of ((u3.trans u4) _ _ g2)) (dp_strs [Str.ofString "times"])) (.cons (.lst (SqL.of (u4 _ _ g3)) (dp_strs [Str.ofString "times", Str.ofString "more"])) .nil))), strs_shaped oF, by decide +kernel, _, rfl, ?_⟩
      have ev : ([PyData.list ([].map PyData.str), .list ([Str.ofString "times"].map PyData.str), .list ([Str.ofString "times", Str.ofString "more"].map PyData.str)].any fun z => PyData.eqv z (.list ((evensL (r.drop 1)).map PyData.str))) =
          (decide ([] = evensL (r.drop 1)) || (decide ([Str.ofString "times"] = evensL (r.drop 1)) || decide ([Str.ofString "times", Str.ofString "more"] = evensL (r.drop 1)))) := by
        rw [List.any_cons, List.any_cons, List.any_cons, List.any_nil, strs_eqv, strs_eqv, strs_eqv, Bool.or_false]
      rw [ev]
      by_cases c : evensL (r.drop 1) = [] ∨ evensL (r.drop 1) = [Str.ofString "times"] ∨ evensL (r.drop 1) = [Str.ofString "times", Str.ofString "more"]
      · refine ifF ?_ ⟨rfl, s5.trans sA, sA _ _ l5, sA _ _ n5, c⟩
        rcases c with z | z | z <;> rw [z] <;> decide +kernel
      · refine ifT ?_ (k1 (readB_bad6 ct ca c) J5 (s5.trans sA))
        rw [decide_eq_false fun z => c (.inl z.symm), decide_eq_false fun z => c (.inr (.inl z.symm)), decide_eq_false fun z => c (.inr (.inr z.symm))]
        rfl
    rintro σ H6 ⟨rfl, s6, l6, n6, h6⟩
    clear l5 n5 f5 s5
    have shp := shape_of h5 h6
    have onone : ∀ os : List (Option Int), inV .non (os.map goalV) = os.any (·.isNone) := fun os => by
      unfold inV
      rw [List.any_map]
      congr 1
      funext o
      cases o <;> rfl
    refine ⟨fun σ H' => σ = [some (.ref l), some (.ref N1), none, some (.ref F0), none, none, none, none, none, none, none, none] ∧ Same H H' ∧ H' l = some (.lst ((w0 :: r).map V.str)) ∧ H' N1 = some (.lst (((evensL r).map numW).map goalV)) ∧ ((evensL r).map numW).any (·.isNone) = false, ?_, ?_⟩
    · refine ⟨_, rfl, N1, _, rfl, .inl (SqL.of n6), rfl, ?_, _, rfl, ?_⟩
      · rw [List.all_map, List.all_eq_true]
        intro o _
        cases o <;> rfl
      · rw [if_neg (by decide), onone]
        cases hb : ((evensL r).map numW).any (·.isNone) with
        | false => exact iteF ⟨rfl, s6, l6, n6, rfl⟩
        | true =>
          refine iteT (k1 ?_ H6 s6)
          rcases shp with ⟨n, rfl⟩ | ⟨n, k, rfl⟩ | ⟨n, k, q, rfl⟩
          · rw [readB_two ca]
            cases e : numW n with
            | none => rfl
            | some v =>
              replace hb : ((numW n).isNone || false) = true := hb
              rw [e] at hb
              exact nomatch hb
          · rw [readB_four ca]
            replace hb : ((numW n).isNone || ((numW k).isNone || false)) = true := hb
            cases e : numW n with
            | none => rfl
            | some v =>
              cases e2 : numW k with
              | none => rfl
              | some u =>
                rw [e, e2] at hb
                exact nomatch hb
          · by_cases q0 : q = "0"
            · rw [q0]
              exact readB_zero ca
            · rw [readB_six ca q0]
              replace hb : ((numW n).isNone || ((numW k).isNone || ((numW q).isNone || false))) = true := hb
              cases e : numW n with
              | none => rfl
              | some v =>
                cases e2 : numW k with
                | none => rfl
                | some u =>
                  cases e3 : numW q with
                  | none => rfl
                  | some z =>
                    rw [e, e2, e3] at hb
                    exact nomatch hb
    rintro σ H7 ⟨rfl, s7, l7, n7, h7⟩
    clear l6 n6 s6
    obtain ⟨n, tm, mo, hSh, hR⟩ : ∃ n tm mo, Sh ((evensL r).map numW) n tm mo ∧ readB (w0 :: r) = if 2 < ((evensL r).map numW).length ∧ mo = 0 then none else serR w0 (some n) (some tm) (some mo) := by
      rcases shp with ⟨n, rfl⟩ | ⟨n, k, rfl⟩ | ⟨n, k, q, rfl⟩
      · replace h7 : ((numW n).isNone || false) = false := h7
        rw [Bool.or_false] at h7
        obtain ⟨v, hv⟩ := not_isNone h7
        refine ⟨v, 1, 0, .inl ⟨?_, rfl, rfl⟩, ?_⟩
        · show [numW n] = _
          rw [hv]
        · rw [if_neg fun z => absurd z.1 (by show ¬ 2 < 1; decide), readB_two ca, hv]
          exact meet_ser
      · replace h7 : ((numW n).isNone || ((numW k).isNone || false)) = false := h7
        rw [Bool.or_false, Bool.or_eq_false_iff] at h7
        obtain ⟨v, hv⟩ := not_isNone h7.1
        obtain ⟨u, hu⟩ := not_isNone h7.2
        refine ⟨v, u, 0, .inr (.inl ⟨?_, rfl⟩), ?_⟩
        · show [numW n, numW k] = _
          rw [hv, hu]
        · rw [if_neg fun z => absurd z.1 (by show ¬ 2 < 2; decide), readB_four ca, hv, hu]
      · replace h7 : ((numW n).isNone || ((numW k).isNone || ((numW q).isNone || false))) = false := h7
        rw [Bool.or_false, Bool.or_eq_false_iff, Bool.or_eq_false_iff] at h7
        obtain ⟨v, hv⟩ := not_isNone h7.1
        obtain ⟨u, hu⟩ := not_isNone h7.2.1
        obtain ⟨z, hz⟩ := not_isNone h7.2.2
        refine ⟨v, u, z, .inr (.inr ?_), ?_⟩
        · show [numW n, numW k, numW q] = _
          rw [hv, hu, hz]
        · by_cases z0 : z = 0
          · rw [if_pos ⟨by show 2 < 3; decide, z0⟩, zero_word (q := q) (by rw [hz, z0])]
            exact readB_zero ca
          · have nq : q ≠ Str.ofString "0" := fun y => by
              rw [y, show numW (Str.ofString "0") = some 0 by decide +kernel] at hz
              exact z0 (Option.some.inj hz).symm
            rw [if_neg fun y => z0 y.2, readB_six ca nq, hv, hu, hz]
    generalize (evensL r).map numW = os at *
    refine ⟨fun σ H' => σ = [some (.ref l), some (.ref N1), none, some (.ref F0), some (.int tm), none, none, none, none, none, none, none] ∧ H' = H7, ?_, ?_⟩
    · rcases hSh with ⟨rfl, rfl, rfl⟩ | ⟨rfl, rfl⟩ | rfl
      · exact ⟨_, rfl, N1, _, rfl, .inl (SqL.of n7), _, _, rfl, rfl, _, rfl, ifF (decide_eq_false (show ¬ ((1 : Int) < 1) by decide)) ⟨rfl, rfl⟩⟩
      · exact ⟨_, rfl, N1, _, rfl, .inl (SqL.of n7), _, _, rfl, rfl, _, rfl, ifT (decide_eq_true (show (1 : Int) < 2 by decide)) ⟨_, rfl, N1, _, _, _, rfl, rfl, SqL.of n7, rfl, rfl, rfl⟩⟩
      · exact ⟨_, rfl, N1, _, rfl, .inl (SqL.of n7), _, _, rfl, rfl, _, rfl, ifT (decide_eq_true (show (1 : Int) < 3 by decide)) ⟨_, rfl, N1, _, _, _, rfl, rfl, SqL.of n7, rfl, rfl, rfl⟩⟩
    rintro σ H8 ⟨rfl, rfl⟩
    refine ⟨fun σ H' => σ = [some (.ref l), some (.ref N1), none, some (.ref F0), some (.int tm), some (.int mo), none, none, none, none, none, none] ∧ H' = H8, ?_, ?_⟩
    · rcases hSh with ⟨rfl, rfl, rfl⟩ | ⟨rfl, rfl⟩ | rfl
      · exact ⟨_, rfl, N1, _, rfl, .inl (SqL.of n7), _, _, rfl, rfl, _, rfl, ifF (decide_eq_false (show ¬ ((2 : Int) < 1) by decide)) ⟨rfl, rfl⟩⟩
      · exact ⟨_, rfl, N1, _, rfl, .inl (SqL.of n7), _, _, rfl, rfl, _, rfl, ifF (decide_eq_false (show ¬ ((2 : Int) < 2) by decide)) ⟨rfl, rfl⟩⟩
      · exact ⟨_, rfl, N1, _, rfl, .inl (SqL.of n7), _, _, rfl, rfl, _, rfl, ifT (decide_eq_true (show (2 : Int) < 3 by decide)) ⟨_, rfl, N1, _, _, _, rfl, rfl, SqL.of n7, rfl, rfl, rfl⟩⟩
    rintro σ H9 ⟨rfl, rfl⟩
    refine ⟨fun σ H' => σ = [some (.ref l), some (.ref N1), none, some (.ref F0), some (.int tm), some (.int mo), none, none, none, none, none, none] ∧ H' = H9 ∧ (1 ≤ tm ∧ tm ≤ 60) ∧ readB (w0 :: r) = serR w0 (some n) (some tm) (some mo), ?_, ?_⟩
    · have bad : ¬ (1 ≤ tm ∧ tm ≤ 60) → readB (w0 :: r) = none := fun z => by
        rw [hR, serR_range z]
        exact ite_self _
      rcases hSh with ⟨rfl, rfl, rfl⟩ | ⟨rfl, rfl⟩ | rfl
      · refine ⟨_, rfl, N1, _, rfl, .inl (SqL.of n7), _, _, rfl, rfl, _, rfl, ifF (decide_eq_false (show ¬ ((2 : Int) < 1) by decide)) (iteF ?_)⟩
        refine ⟨_, rfl, _, _, rfl, rfl, _, rfl, ifT (by decide) ⟨_, _, rfl, rfl, _, rfl, ifF (by decide) ⟨rfl, rfl, by decide, ?_⟩⟩⟩
        rw [hR, if_neg fun z => absurd z.1 (by show ¬ 2 < 1; decide)]
      · refine ⟨_, rfl, N1, _, rfl, .inl (SqL.of n7), _, _, rfl, rfl, _, rfl, ifF (decide_eq_false (show ¬ ((2 : Int) < 2) by decide)) (iteF ?_)⟩
        refine ⟨_, rfl, _, _, rfl, rfl, _, rfl, ?_⟩
        by_cases c1 : 1 ≤ tm
        · refine ifT (decide_eq_true c1) ⟨_, _, rfl, rfl, _, rfl, ?_⟩
          by_cases c2 : tm ≤ 60
          · exact ifF (by rw [decide_eq_true c2]; rfl) ⟨rfl, rfl, ⟨c1, c2⟩, by rw [hR, if_neg fun z => absurd z.1 (by show ¬ 2 < 2; decide)]⟩
          · exact ifT (by rw [decide_eq_false c2]; rfl) (k1 (bad fun z => c2 z.2) H9 s7)
        · exact ifF (decide_eq_false c1) ⟨_, rfl, iteT (k1 (bad fun z => c1 z.1) H9 s7)⟩
      · refine ⟨_, rfl, N1, _, rfl, .inl (SqL.of n7), _, _, rfl, rfl, _, rfl, ifT (decide_eq_true (show (2 : Int) < 3 by decide)) ⟨_, rfl, rfl, _, rfl, ?_⟩⟩
        by_cases z0 : mo = 0
        · refine ifT (by rw [z0]; decide) (iteT (k1 (hR.trans (if_pos ⟨by show 2 < 3; decide, z0⟩)) H9 s7))
        refine ifF (by simp [z0]) ?_
        refine ⟨_, rfl, _, _, rfl, rfl, _, rfl, ?_⟩
        by_cases c1 : 1 ≤ tm
        · refine ifT (decide_eq_true c1) ⟨_, _, rfl, rfl, _, rfl, ?_⟩
          by_cases c2 : tm ≤ 60
          · exact ifF (by rw [decide_eq_true c2]; rfl) ⟨rfl, rfl, ⟨c1, c2⟩, by rw [hR, if_neg fun z => z0 z.2]⟩
          · exact ifT (by rw [decide_eq_false c2]; rfl) (k1 (bad fun z => c2 z.2) H9 s7)
        · exact ifF (decide_eq_false c1) ⟨_, rfl, iteT (k1 (bad fun z => c1 z.1) H9 s7)⟩
    rintro σ H10 ⟨rfl, rfl, ht, hR'⟩
    obtain ⟨b, rfl⟩ : ∃ b, w0 = roomS b := by
      rcases hr0 with z | z
      · exact ⟨true, z⟩
      · exact ⟨false, z⟩
    obtain ⟨nr, en⟩ : ∃ nr, H10 N1 = some (.lst (V.int n :: nr)) := by
      rcases hSh with ⟨rfl, _⟩ | ⟨rfl, _⟩ | rfl
      · exact ⟨_, n7⟩
      · exact ⟨_, n7⟩
      · exact ⟨_, n7⟩
    rw [hR'] at k1 k2
    clear hR hR' h7 hSh n7 shp h6 h5
    refine ⟨_, rfl, tm, rfl, by omega, by omega, ser_lc (K := K) (b := b) (m := tm.toNat) l7 en (by omega) (by rfl) (by rfl) (by rfl) (by rfl) fun S H11 us s11 hS eS su => ?_⟩
    refine ⟨_, rfl, S, rfl, ⟨_, SqL.of eS⟩, need_lc (K := K) eS su (by omega) (by rfl) fun Nd H12 s12 hNd eNd => ?_⟩
    have sA : Same H H12 := s7.trans (s11.trans s12)
    have sl : (serN n mo tm.toNat).length = tm.toNat := by
      unfold serN
      rw [List.length_map]; rw [List.length_range]
    have okv : okSer (roomS b) n tm mo = true ↔ ∀ x ∈ serN n mo tm.toNat, 0 ≤ x ∧ x ≤ 1000000000000000000 := by
      unfold okSer serN
      rw [decide_eq_true ht, Bool.and_true, okMeet_roomS, Bool.and_eq_true, List.all_eq_true]
      constructor
      · rintro ⟨_, h2⟩ x hx
        obtain ⟨i, hi, rfl⟩ := List.mem_map.mp hx
        have := h2 i hi
        rw [okMeet_roomS] at this
        exact of_decide_eq_true this
      · intro h
        refine ⟨?_, fun i hi => ?_⟩
        · have := h (n + ((0 : Nat) : Int) * mo) (List.mem_map.mpr ⟨0, List.mem_range.mpr (by omega), rfl⟩)
          rw [show n + ((0 : Nat) : Int) * mo = n by omega] at this
          exact decide_eq_true this
        · rw [okMeet_roomS]
          exact decide_eq_true (h _ (List.mem_map.mpr ⟨i, hi, rfl⟩))
    have no : ¬ (∀ x ∈ serN n mo tm.toNat, 0 ≤ x ∧ x ≤ 1000000000000000000) → Q .non H12 := fun z => k1 (if_neg fun y => z (okv.mp y)) H12 sA
    refine ⟨_, rfl, Nd, _, rfl, SqL.of eNd, by omega, fun m hm hmin => ⟨_, _, rfl, rfl, _, rfl, ?_⟩⟩
    by_cases c0 : 0 ≤ m
    · refine ifT (decide_eq_true c0) ⟨_, rfl, Nd, _, rfl, SqL.of eNd, by omega, fun M hM hmax => ⟨_, _, rfl, rfl, ⟨by decide, by decide⟩, _, _, rfl, rfl, _, rfl, ?_⟩⟩
      by_cases c1 : M ≤ 1000000000000000000
      · refine ifT (decide_eq_true c1) ⟨_, rfl, k2 _ (serR_ok (okv.mpr fun x hx => ⟨Int.le_trans c0 (hmin x hx), Int.le_trans (hmax x hx) c1⟩)) S us H12 sA (same_none s7 (same_none (Same.refl _) hS)) (s12 _ _ eS) (su.same s12)⟩
      · exact ifF (decide_eq_false c1) (no fun z => c1 (z M hM).2)
    · exact ifF (decide_eq_false c0) (iteF (no fun z => c0 (z m hm).1))
end
end Cc

/-! The law of texts: a text changed. -/
namespace Cc
open PySem PySem.Spec PyProof.Rows L2 TL
theorem cut_tail1 (us : List V) {n : Nat} (h : n ≤ us.length) : cutV us (some (n : Int)) none = us.drop n := by
  unfold cutV
  rw [HT.sIx_nat, HT.sIx_none, Nat.min_eq_left h]
  exact List.take_of_length_le (by rw [List.length_drop]; exact Nat.le_refl _)
theorem at0_mem {ws : List Str} {i : Nat} (h : i < ws.length) : at0 ws i ∈ ws := by
  unfold at0
  rw [List.getD_eq_getElem?_getD, List.getElem?_eq_getElem h]
  exact List.getElem_mem h
/-- a list of texts that drawing leaves alone -/
structure LsA (h l : Addr) (H : Hp) (p : Addr) (xs : List Str) : Prop where
  e : H p = some (.lst (xs.map V.str))
  n1 : p ≠ h
  n2 : p ≠ l
theorem LsA.same {h l p : Addr} {H H' : Hp} {xs : List Str} (a : LsA h l H p xs) (s : Same H H') : LsA h l H' p xs := ⟨s _ _ a.e, a.n1, a.n2⟩
theorem LsA.but {h l p : Addr} {H H' : Hp} {xs : List Str} (a : LsA h l H p xs) (b : But2 h l H H') : LsA h l H' p xs := ⟨b _ _ a.n1 a.n2 a.e, a.n1, a.n2⟩
theorem LsA.new {h l p : Addr} {H H' : Hp} {xs : List Str} (n : NextAt H h l) (hp : H p = none) (e : H' p = some (.lst (xs.map V.str))) : LsA h l H' p xs :=
  ⟨e, let ⟨_, z⟩ := n.h1; (ne_of_none z hp).symm, let ⟨_, z⟩ := n.l1; (ne_of_none z hp).symm⟩
theorem do_new {H : Hp} {xs : List V} {Q : VK} (hz : xs.length ≤ sizeLine) (k : ∀ p H', Same H H' → H p = none → H' p = some (.lst xs) → Q (.ref p) H') : xs.length ≤ sizeLine ∧ ∀ p, H p = none → Q (.ref p) (upd H p (.lst xs)) :=
  ⟨hz, fun p hp => k p _ (same_upd hp) hp upd_same⟩
/-- an expression that comes to a list of texts; to a fresh one -/
def Gives (σ : L2.St) (P : Hp → Prop) (te : TE) (xs : List Str) : Prop := ∀ (H : Hp) (Q : VK), P H → (∀ p H', Same H H' → H' p = some (.lst (xs.map V.str)) → Q (.ref p) H') → te σ H Q
def Makes (σ : L2.St) (P : Hp → Prop) (te : TE) (xs : List Str) : Prop := ∀ (H : Hp) (Q : VK), P H → (∀ p H', Same H H' → H p = none → H' p = some (.lst (xs.map V.str)) → Q (.ref p) H') → te σ H Q
theorem Makes.gives {σ : L2.St} {P : Hp → Prop} {te : TE} {xs : List Str} (m : Makes σ P te xs) : Gives σ P te xs := fun H Q p k => m H Q p fun q H' s _ e => k q H' s e
theorem Makes.cat {σ : L2.St} {P : Hp → Prop} (hP : ∀ H H', P H → Same H H' → P H') {ta tb : TE} {xs ys : List Str} (a : Gives σ P ta xs) (b : Gives σ P tb ys) (hz : xs.length + ys.length ≤ 100000) : Makes σ P (tOp rCat ta tb) (xs ++ ys) := fun H Q p k =>
  a H _ p fun q1 H1 s1 e1 => b H1 _ (hP _ _ p s1) fun q2 H2 s2 e2 => ⟨q1, q2, _, _, rfl, rfl, s2 _ _ e1, e2, by rw [List.length_map, List.length_map, sizeLine_eq]; omega, fun z hz => k z _ (s1.trans (s2.trans (same_upd hz))) (sn_none (s1.trans s2) hz) (by rw [upd_same, List.map_append])⟩
section
variable {K : PySem.W.Frag} {σ : L2.St} {P : Hp → Prop} {i j n : Nat} {a : Addr} {xs : List Str}
theorem Gives.var (hi : σ[i]? = some (some (.ref a))) (hx : ∀ H, P H → H a = some (.lst (xs.map V.str))) : Gives σ P (tVar i) xs := fun H Q p k => ⟨_, hi, k a H (Same.refl H) (hx H p)⟩
theorem Makes.tk (hi : σ[i]? = some (some (.ref a))) (hj : σ[j]? = some (some (.int (n : Nat)))) (hx : ∀ H, P H → H a = some (.lst (xs.map V.str))) (hn : n ≤ xs.length) : Makes σ P (tSl (rSlL K) (tVar i) tNoPart (tPart (tVar j))) (xs.take n) := fun H Q p k =>
  ⟨_, hi, ⟨_, hj, _, rfl, a, _, rfl, SqL.of (hx H p), fun q hq => k q _ (same_upd hq) hq (by
    rw [upd_same, List.map_take]
    congr 2
    unfold cutV
    rw [HT.sIx_none, HT.sIx_nat, List.drop_zero, Nat.min_eq_left (by rw [List.length_map]; exact hn), Nat.sub_zero])⟩⟩
theorem Makes.dr (hi : σ[i]? = some (some (.ref a))) (hj : σ[j]? = some (some (.int (n : Nat)))) (hx : ∀ H, P H → H a = some (.lst (xs.map V.str))) (hn : n ≤ xs.length) : Makes σ P (tSl (rSlL K) (tVar i) (tPart (tVar j)) tNoPart) (xs.drop n) := fun H Q p k =>
  ⟨_, hi, ⟨_, hj, _, rfl, a, _, rfl, SqL.of (hx H p), fun q hq => k q _ (same_upd hq) hq (by
    rw [upd_same, cut_tail1 _ (by rw [List.length_map]; exact hn), List.map_drop])⟩⟩
theorem Makes.dr1 (hi : σ[i]? = some (some (.ref a))) (hj : σ[j]? = some (some (.int (n : Nat)))) (hx : ∀ H, P H → H a = some (.lst (xs.map V.str))) (hn : n + 1 ≤ xs.length) : Makes σ P (tSl (rSlL K) (tVar i) (tPart (tOp (rI0 fun i j => .int (i + j)) (tVar j) (tC (.int 1)))) tNoPart) (xs.drop (n + 1)) := fun H Q p k =>
  ⟨_, hi, ⟨_, hj, _, _, rfl, rfl, _, rfl, a, _, rfl, SqL.of (hx H p), fun q hq => k q _ (same_upd hq) hq (by
    rw [upd_same, show (n : Int) + 1 = ((n + 1 : Nat) : Int) from rfl, cut_tail1 _ (by rw [List.length_map]; exact hn), List.map_drop])⟩⟩
theorem Makes.l1 {x : Str} (hi : σ[i]? = some (some (.str x))) : Makes σ P (tLst (tCons (tVar i) tNil)) [x] := fun H Q p k =>
  ⟨_, hi, by show 1 ≤ sizeLine; decide, fun q hq => k q _ (same_upd hq) hq (by rw [upd_same]; rfl)⟩
theorem Makes.lC {x : Str} : Makes σ P (tLst (tCons (tC (.str x)) tNil)) [x] := fun H Q p k =>
  ⟨by show 1 ≤ sizeLine; decide, fun q hq => k q _ (same_upd hq) hq (by rw [upd_same]; rfl)⟩
end
theorem at_range {xs : List Str} {r : Int} (h0 : 0 ≤ r) (h1 : r < (xs.length : Int)) : ∃ x ∈ xs, atI (xs.map V.str) r = some (.str x) := by
  obtain ⟨n, rfl⟩ := (Int.eq_ofNat_of_zero_le h0)
  exact ⟨at0 xs n, at0_mem (by omega), at0_at (by omega)⟩
theorem tot_at {xs : List Str} {n : Nat} (h : n < xs.length) : tot (xs.take n) + ((at0 xs n).length + 1) + tot (xs.drop (n + 1)) = tot xs := by
  have e : xs.drop n = at0 xs n :: xs.drop (n + 1) := by
    unfold at0
    rw [List.getD_eq_getElem?_getD, List.getElem?_eq_getElem h]
    exact List.drop_eq_getElem_cons h
  have := tot_take_le xs n
  rw [e, tot_cons] at this
  omega
theorem okS_apps {a b : List Str} (ha : ∀ x ∈ a, okS x) (hb : ∀ x ∈ b, okS x) : ∀ x ∈ a ++ b, okS x := fun x hx => (List.mem_append.mp hx).elim (ha x) (hb x)
theorem ok_one {x : Str} (h : okS x) : ∀ y ∈ [x], okS y := fun y hy => by rw [List.mem_singleton.mp hy]; exact h
theorem tot_one (x : Str) : tot [x] = x.length + 1 := by
  rw [tot_cons]
  rfl
theorem spl_free {s : Nat} : ∀ {l acc : List Nat}, s ∉ acc → ∀ p ∈ spl [s] 0 acc l, s ∉ p
  | [], acc, h, p, hp => by
    rw [spl_nil] at hp
    rw [List.mem_singleton.mp hp]
    exact h
  | c :: r, acc, h, p, hp => by
    by_cases e : pre [s] (c :: r) = true
    · rw [spl_hit e] at hp
      rcases List.mem_cons.mp hp with z | z
      · rw [z]
        exact h
      · exact spl_free (l := r) (acc := []) (by simp) p z
    · have hp' : p ∈ spl [s] 0 (acc ++ [c]) r := by
        have : spl [s] 0 acc (c :: r) = spl [s] 0 (acc ++ [c]) r := if_neg e
        rw [← this]
        exact hp
      refine spl_free (l := r) (acc := acc ++ [c]) (fun z => ?_) p hp'
      rcases List.mem_append.mp z with z | z
      · exact h z
      · refine e ?_
        rw [List.mem_singleton.mp z]
        unfold pre
        simp
theorem split_free {t y : Str} {s : Nat} (hy : tl y = [s]) (hk : y.cps.all (· < 256) = true) : ∀ x ∈ Txt.split t y, s ∉ tl x := fun x hx => by
  have e := split_spl t y (by rw [hy]; simp) (kind_ok hk)
  rw [hy] at e
  have : tl x ∈ spl [s] 0 [] (tl t) := by
    rw [← e]
    exact List.mem_map.mpr ⟨x, hx, rfl⟩
  exact spl_free (by simp) _ this
theorem split_sub {t y : Str} {s c : Nat} (hy : tl y = [s]) (hk : y.cps.all (· < 256) = true) (hc : c ∉ tl t) : ∀ x ∈ Txt.split t y, c ∉ tl x := fun x hx hx2 => by
  have e := split_spl t y (by rw [hy]; simp) (kind_ok hk)
  have : tl x ∈ spl (tl y) 0 [] (tl t) := by
    rw [← e]
    exact List.mem_map.mpr ⟨x, hx, rfl⟩
  rcases spl_mem this hx2 with z | z
  · exact nomatch z
  · exact hc z
/-- a line whose words are of the law's kind -/
def LineB (ln : Str) : Prop := 10 ∉ tl ln ∧ okS ln ∧ ∀ w ∈ wordsB ln, WordOk w
theorem lineB_of {t : Str} (ot : okS t) (ht : TextOk t) : ∀ ln ∈ lines t, LineB ln := fun ln h => ⟨split_free tl_nl (by decide +kernel) ln h, lines_ok ot ln h, ht ln h⟩
def WordB (w : Str) : Prop := 32 ∉ tl w ∧ 10 ∉ tl w ∧ okS w ∧ WordOk w
theorem wordB_of {ln : Str} (h : LineB ln) : ∀ w ∈ wordsB ln, WordB w := fun w hw => ⟨split_free tl_sp (by decide +kernel) w hw, split_sub tl_sp (by decide +kernel) h.1 w hw, words_ok h.2.1 w hw, h.2.2 w hw⟩
theorem wordB_empty : WordB "" := by
  have e : tl (Str.ofString "") = [] := by decide +kernel
  refine ⟨by rw [e]; simp, by rw [e]; simp, (fun c hc => by rw [e] at hc; exact (nomatch hc)), by decide +kernel, fun v hv => ?_⟩
  have : numW (Str.ofString "") = none := by decide +kernel
  rw [this] at hv
  exact nomatch hv
theorem words_empty : wordsB "" = [Str.ofString ""] := words_of (x := "") (ps := [Str.ofString ""]) (by simp [joinL]) (by simp) (fun p hp => by rw [List.mem_singleton.mp hp]; exact wordB_empty.1)
theorem lineB_empty : LineB "" := by
  refine ⟨wordB_empty.2.1, wordB_empty.2.2.1, fun w hw => ?_⟩
  rw [words_empty] at hw
  rw [List.mem_singleton.mp hw]
  exact wordB_empty.2.2.2
theorem join_nil (y : Str) : Txt.join y [] = "" := by
  refine ext_tl ?_
  rw [join_eq, tl_join]
  show joinL (tl y) [] = _
  rw [show tl (Str.ofString "") = [] by decide +kernel]
  rfl
theorem lineB_join {cs : List Str} (h : ∀ w ∈ cs, WordB w) : LineB (Txt.join " " cs) := by
  cases cs with
  | nil =>
    rw [join_nil]
    exact lineB_empty
  | cons a r =>
    refine ⟨fun z => ?_, join_ok (okS_of (by decide +kernel)) fun w hw => (h w hw).2.2.1, fun w hw => ?_⟩
    · rw [join_eq, tl_join] at z
      rcases joinL_mem z with z | ⟨p, hp, z⟩
      · rw [tl_sp] at z
        exact absurd z (by decide)
      · obtain ⟨w, hw, rfl⟩ := List.mem_map.mp hp
        exact (h w hw).2.1 z
    · rw [show wordsB (Txt.join " " (a :: r)) = a :: r from split_join (s := 32) (S := []) tl_sp (by decide +kernel) (by simp) fun p hp => (h p hp).1] at hw
      exact (h w hw).2.2.2
theorem textOk_join {cs : List Str} (h : ∀ l ∈ cs, LineB l) : okS (Txt.join "\n" cs) ∧ TextOk (Txt.join "\n" cs) := by
  refine ⟨join_ok (okS_of (by decide +kernel)) fun l hl => (h l hl).2.1, ?_⟩
  cases cs with
  | nil =>
    rw [join_nil]
    intro ln hl
    have e : lines "" = [Str.ofString ""] := split_join (y := "\n") (s := 10) (S := []) tl_nl (by decide +kernel) (parts := [Str.ofString ""]) (by simp) (fun p hp => by rw [List.mem_singleton.mp hp]; exact wordB_empty.2.1)
    rw [e] at hl
    rw [List.mem_singleton.mp hl]
    exact lineB_empty.2.2
  | cons a r =>
    intro ln hl
    rw [show lines (Txt.join "\n" (a :: r)) = a :: r from split_join (s := 10) (S := []) tl_nl (by decide +kernel) (by simp) fun p hp => (h p hp).1] at hl
    exact (h ln hl).2.2
theorem all_app {p : Str → Prop} {a b : List Str} (ha : ∀ x ∈ a, p x) (hb : ∀ x ∈ b, p x) : ∀ x ∈ a ++ b, p x := fun x hx => (List.mem_append.mp hx).elim (ha x) (hb x)
theorem all_one {p : Str → Prop} {x : Str} (h : p x) : ∀ y ∈ [x], p y := fun y hy => by rw [List.mem_singleton.mp hy]; exact h
def spBent : Sp := fun vs H Q _ => ∃ (h l : Addr) (t : Str), vs = [.ref h, .str t] ∧ NextAt H h l ∧ okS t ∧ TextOk t ∧ t.length ≤ 800 ∧ ∀ u H', NextAt H' h l → But2 h l H H' → okS u → TextOk u → u.length ≤ t.length + 14 → Q (.str u) H'
abbrev oddW : List Str := ["", "0", "01", "-1", "-0", "x", "turn", "times", "more", "61", "7", "red", "Blue", "alternate"]
def oddT (x : Str) : Bool := (tl x).all (fun c => decide (c < 1114112) && !decide (c = 32) && !decide (c = 10)) && decide (x.length ≤ 9) && (match numW x with | none => true | some v => decide (-1000 < v ∧ v ≤ 1000000000000000000))
theorem oddT_ok {x : Str} (this : oddT x = true) : WordB x ∧ x.length ≤ 9 := by
  unfold oddT at this
  rw [Bool.and_eq_true, Bool.and_eq_true] at this
  obtain ⟨⟨h1, h2⟩, h3⟩ := this
  have h1 := List.all_eq_true.mp h1
  have l9 := of_decide_eq_true h2
  refine ⟨⟨fun z => ?_, fun z => ?_, fun c hc => ?_, by omega, fun v hv => ?_⟩, l9⟩
  · have := h1 32 z
    simp at this
  · have := h1 10 z
    simp at this
  · have := h1 c hc
    rw [Bool.and_eq_true, Bool.and_eq_true] at this
    exact of_decide_eq_true this.1.1
  · rw [hv] at h3
    exact of_decide_eq_true h3
theorem oddW_ok : ∀ x ∈ oddW, WordB x ∧ x.length ≤ 9 := fun x hx => oddT_ok (List.all_eq_true.mp (by decide +kernel : oddW.all oddT = true) x hx)
section
variable {P : Program} {w : World} {K : PySem.W.Frag} {mg : Str → Option Value} {base : Heap} {C TU pS gS : Addr} {mc : Value}
abbrev s__law_bent : Stmt := top 45
abbrev n__law_bent : List Str := ["_law_h", "_law_text", "_law_lines", "_law_k", "_law_words", "_law_j", "_law_odd", "_law_changed", "_law_line", "_law_some"]
theorem sc__law_bent : FnScope n__law_bent ["_law_h", "_law_text"] (defScope s__law_bent) := ⟨rfl, rfl, rfl, by decide +kernel, rfl, by decide +kernel, by decide +kernel⟩
theorem ok__law_bent {f f__law_next : Addr} {fd : FuncData} (F : Fun K "_law_bent" "_law_bent" s__law_bent f fd) (B : Bt mg) (D__law_next : Dn P w K mg base 1 "_law_next" f__law_next spNext) : FnOk P w K mg base CX0 2 f fd ["_law_h", "_law_text"] spBent := by
  refine F.ok sc__law_bent (fun vs H Q E h => ?_) (fun cdv A outer s H vs Q E hr h => ?_)
  · obtain ⟨h, l, t, rfl, _⟩ := h
    rfl
  · obtain ⟨h, l, t, rfl, N0, ot, ht, lt, k⟩ := h
    refine ⟨_, pss_cons (ps_set (i := 2) sc__law_bent.nd rfl (.inl rfl) (pe_split (pv 1) pe_str))
      (pss_cons (ps_set (i := 3) sc__law_bent.nd rfl (.inl rfl) (pe_callR D__law_next.ok (hr.mono (by decide)) rfl D__law_next.at_ D__law_next.kp pass0 (pa_cons (pv 0) (pa_cons (pe_callB call_len_seq (by rfl) B.len PySem.boot_len (pa_cons (pv 2) pa_nil)) pa_nil))))
      (pss_cons (ps_set (i := 4) sc__law_bent.nd rfl (.inl rfl) (pe_split (pe_ix ix_list (pv 2) (pv 3) (fun _ _ => rfl)) pe_str))
      (pss_cons (ps_set (i := 5) sc__law_bent.nd rfl (.inl rfl) (pe_callR D__law_next.ok (hr.mono (by decide)) rfl D__law_next.at_ D__law_next.kp pass0 (pa_cons (pv 0) (pa_cons (pe_callB call_len_seq (by rfl) B.len PySem.boot_len (pa_cons (pv 4) pa_nil)) pa_nil))))
      (pss_cons (ps_set (i := 6) sc__law_bent.nd rfl (.inl rfl) (pe_ix ix_list (pe_lst (pa_cons pe_str (pa_cons pe_str (pa_cons pe_str (pa_cons pe_str (pa_cons pe_str (pa_cons pe_str (pa_cons pe_str (pa_cons pe_str (pa_cons pe_str (pa_cons pe_str (pa_cons pe_str (pa_cons pe_str (pa_cons pe_str (pa_cons pe_str pa_nil))))))))))))))) (pe_callR D__law_next.ok (hr.mono (by decide)) rfl D__law_next.at_ D__law_next.kp pass0 (pa_cons (pv 0) (pa_cons pe_int pa_nil))) (fun _ _ => rfl)))
      (pss_cons (ps_set (i := 7) sc__law_bent.nd rfl (.inl rfl) (pe_ix ix_list (pe_lst (pa_cons (pe_op op_cat (pe_op op_cat (pe_slice sl_list (pv 4) po_none (po_some (pv 5))) (pe_lst (pa_cons (pv 6) pa_nil))) (pe_slice sl_list (pv 4) (po_some (pe_op op_add (pv 5) pe_int)) po_none)) (pa_cons (pe_op op_cat (pe_slice sl_list (pv 4) po_none (po_some (pv 5))) (pe_slice sl_list (pv 4) (po_some (pe_op op_add (pv 5) pe_int)) po_none)) (pa_cons (pe_op op_cat (pe_op op_cat (pe_slice sl_list (pv 4) po_none (po_some (pv 5))) (pe_lst (pa_cons (pv 6) pa_nil))) (pe_slice sl_list (pv 4) (po_some (pv 5)) po_none)) pa_nil)))) (pe_callR D__law_next.ok (hr.mono (by decide)) rfl D__law_next.at_ D__law_next.kp pass0 (pa_cons (pv 0) (pa_cons pe_int pa_nil))) (fun _ _ => rfl)))
      (pss_cons (ps_set (i := 8) sc__law_bent.nd rfl (.inl rfl) (pe_lst (pa_cons (pe_join pe_str (pv 7)) pa_nil)))
      (pss_cons (ps_set (i := 9) sc__law_bent.nd rfl (.inl rfl) (pe_lst (pa_cons (pe_op op_cat (pe_op op_cat (pe_slice sl_list (pv 2) po_none (po_some (pv 3))) (pv 8)) (pe_slice sl_list (pv 2) (po_some (pe_op op_add (pv 3) pe_int)) po_none)) (pa_cons (pe_op op_cat (pe_op op_cat (pe_slice sl_list (pv 2) po_none (po_some (pv 3))) (pv 8)) (pe_slice sl_list (pv 2) (po_some (pe_op op_add (pv 3) pe_int)) po_none)) (pa_cons (pe_op op_cat (pe_slice sl_list (pv 2) po_none (po_some (pv 3))) (pe_slice sl_list (pv 2) (po_some (pe_op op_add (pv 3) pe_int)) po_none)) (pa_cons (pe_op op_cat (pv 2) (pe_lst (pa_cons pe_str pa_nil))) pa_nil))))))
      (pss_one (ps_ret (pe_join pe_str (pe_ix ix_list (pv 9) (pe_callR D__law_next.ok (hr.mono (by decide)) rfl D__law_next.at_ D__law_next.kp pass0 (pa_cons (pv 0) (pa_cons pe_int pa_nil))) (fun _ _ => rfl)))))))))))), ?_⟩
    obtain ⟨lt1, lne⟩ := lines_tot t
    have lok := lineB_of ot ht
    have l0 : 0 < (lines t).length := List.length_pos_iff.mpr lne
    have lz := tot_len (lines t)
    have sz := sizeLine_eq
    refine ⟨_, rfl, ⟨t, rfl⟩, t, _, rfl, rfl, by decide +kernel, by omega, fun m hm => ?_⟩
    have s1 := same_upd (o := .lst ((lines t).map V.str)) hm
    have L1 : LsA h l (upd H m (.lst ((lines t).map V.str))) m (lines t) := .new N0 hm upd_same
    generalize upd H m (.lst ((lines t).map V.str)) = H1 at *
    have N1 := N0.same s1
    refine ⟨_, rfl, _, rfl, m, _, rfl, .inl (SqL.of L1.e), h, l, _, rfl, N1, ?_, ?_, fun kk H2 k0 k1 N2 b2 => ?_⟩
    · rw [List.length_map]; omega
    · rw [List.length_map]; omega
    rw [List.length_map] at k1
    have L2 := L1.but b2
    obtain ⟨kn, rfl⟩ := Int.eq_ofNat_of_zero_le k0
    have kl : kn < (lines t).length := by omega
    have hln : at0 (lines t) kn ∈ lines t := at0_mem kl
    have lln := tot_mem hln
    have oln := lok _ hln
    have al := at0_at kl
    generalize hal : at0 (lines t) kn = ln at *
    refine ⟨_, rfl, _, rfl, m, _, _, _, rfl, rfl, SqL.of L2.e, al, ⟨ln, rfl⟩, ln, _, rfl, rfl, by decide +kernel, by omega, fun wv hw => ?_⟩
    obtain ⟨wt1, wne⟩ := words_tot ln
    have wok := wordB_of oln
    have wz := tot_len (wordsB ln)
    have w0 : 0 < (wordsB ln).length := List.length_pos_iff.mpr wne
    have s3 := same_upd (o := .lst ((wordsB ln).map V.str)) hw
    have W3 : LsA h l (upd H2 wv (.lst ((wordsB ln).map V.str))) wv (wordsB ln) := .new N2 hw upd_same
    generalize upd H2 wv (.lst ((wordsB ln).map V.str)) = H3 at *
    have N3 := N2.same s3
    have L3 := L2.same s3
    refine ⟨_, rfl, _, rfl, wv, _, rfl, .inl (SqL.of W3.e), h, l, _, rfl, N3, ?_, ?_, fun jj H4 j0 j1 N4 b4 => ?_⟩
    · rw [List.length_map]; omega
    · rw [List.length_map]; omega
    rw [List.length_map] at j1
    have W4 := W3.but b4
    have L4 := L3.but b4
    obtain ⟨jn, rfl⟩ := Int.eq_ofNat_of_zero_le j0
    have jl : jn < (wordsB ln).length := by omega
    generalize wordsB ln = ws at *
    have b04 : But2 h l H H4 := (((But2.of s1).trans b2).trans (But2.of s3)).trans b4
    refine ⟨by show 14 ≤ sizeLine; decide, fun o ho => ⟨_, rfl, h, l, 14, rfl, N4.same (same_upd ho), by decide, by decide, fun ro H5 o0 o1 N5 b5 => ?_⟩⟩
    have so := same_upd (o := .lst (oddW.map V.str)) ho
    have O5 : LsA h l H5 o oddW := (LsA.new N4 ho upd_same : LsA h l (upd H4 o (.lst (oddW.map V.str))) o oddW).but b5
    have W5 := (W4.same so).but b5
    have L5 := (L4.same so).but b5
    have b05 := (b04.trans (But2.of so)).trans b5
    obtain ⟨od, hod, ao⟩ := at_range (xs := oddW) o0 o1
    obtain ⟨ok1, ok2⟩ := oddW_ok od hod
    refine ⟨o, _, _, _, rfl, rfl, SqL.of O5.e, ao, ?_⟩
    clear hm hw ho so
    have a0 : (at0 ws jn).length + 1 ≤ tot ws := tot_mem (at0_mem jl)
    have tj := tot_at jl
    have hP : ∀ H H', Same H5 H → Same H H' → Same H5 H' := fun H H' a b => a.trans b
    have hW : ∀ H, Same H5 H → H wv = some (.lst (ws.map V.str)) := fun H s => s _ _ W5.e
    refine Makes.cat hP (Makes.cat hP (Makes.tk (i := 4) (j := 5) (n := jn) rfl rfl hW (by omega)).gives (Makes.l1 (i := 6) (x := od) rfl).gives (by rw [List.length_take]; show _ + 1 ≤ _; omega)).gives (Makes.dr1 (i := 4) (j := 5) (n := jn) rfl rfl hW (by omega)).gives (by rw [List.length_append, List.length_take, List.length_drop]; show _ + 1 + _ ≤ _; omega) _ _ (Same.refl H5) fun pa Ha sa na ea => ?_
    refine Makes.cat hP (Makes.tk (i := 4) (j := 5) (n := jn) rfl rfl hW (by omega)).gives (Makes.dr1 (i := 4) (j := 5) (n := jn) rfl rfl hW (by omega)).gives (by rw [List.length_take, List.length_drop]; omega) _ _ sa fun pb Hb sb nb eb => ?_
    refine Makes.cat hP (Makes.cat hP (Makes.tk (i := 4) (j := 5) (n := jn) rfl rfl hW (by omega)).gives (Makes.l1 (i := 6) (x := od) rfl).gives (by rw [List.length_take]; show _ + 1 ≤ _; omega)).gives (Makes.dr (i := 4) (j := 5) (n := jn) rfl rfl hW (by omega)).gives (by rw [List.length_append, List.length_take, List.length_drop]; show _ + 1 + _ ≤ _; omega) _ _ (sa.trans sb) fun pc Hc sc nc ec => ?_
    have A5 := (LsA.new N5 na ea).same (sb.trans sc)
    have B5 := (LsA.new (N5.same sa) nb eb).same sc
    have C5 := LsA.new (N5.same (sa.trans sb)) nc ec
    have s5c := (sa.trans sb).trans sc
    refine ⟨by show 3 ≤ sizeLine; decide, fun z hz => ⟨_, rfl, h, l, 3, rfl, (N5.same s5c).same (same_upd hz), by decide, by decide, fun r3 H6 q0 q1 N6 b6 => ?_⟩⟩
    have sz6 := same_upd (o := .lst [.ref pa, .ref pb, .ref pc]) hz
    have zh : z ≠ h := let ⟨_, e⟩ := (N5.same s5c).h1; (ne_of_none e hz).symm
    have zl : z ≠ l := let ⟨_, e⟩ := (N5.same s5c).l1; (ne_of_none e hz).symm
    have L6 := (L5.same (s5c.trans sz6)).but b6
    have b06 := (b05.trans (But2.of (s5c.trans sz6))).trans b6
    have toks : ∀ x ∈ ws.take jn, WordB x := fun x hx => wok x (List.mem_of_mem_take hx)
    have droks : ∀ n, ∀ x ∈ ws.drop n, WordB x := fun n x hx => wok x (List.mem_of_mem_drop hx)
    obtain ⟨pz, cs, az, Z6, cl, cok⟩ : ∃ pz cs, atI [V.ref pa, V.ref pb, V.ref pc] r3 = some (.ref pz) ∧ LsA h l H6 pz cs ∧ tot cs ≤ tot ws + 10 ∧ ∀ x ∈ cs, WordB x := by
      have : r3 = ((0 : Nat) : Int) ∨ r3 = ((1 : Nat) : Int) ∨ r3 = ((2 : Nat) : Int) := by omega
      rcases this with y | y | y
      · exact ⟨pa, _, at_of y rfl, (A5.same sz6).but b6, by rw [tot_append, tot_append, tot_one]; omega, all_app (all_app toks (all_one ok1)) (droks _)⟩
      · exact ⟨pb, _, at_of y rfl, (B5.same sz6).but b6, by rw [tot_append]; omega, all_app toks (droks _)⟩
      · exact ⟨pc, _, at_of y rfl, (C5.same sz6).but b6, by rw [tot_append, tot_append, tot_one]; have := tot_take_le ws jn; omega, all_app (all_app toks (all_one ok1)) (droks _)⟩
    refine ⟨z, _, _, _, rfl, rfl, SqL.of (b6 _ _ zh zl upd_same), az, ?_⟩
    clear hz sz6 az A5 B5 C5 ea eb ec na nb nc
    have hsp : Str.length " " = 1 := by decide +kernel
    have hnl : Str.length "\n" = 1 := by decide +kernel
    have jlen := join_len_le hsp cs
    have jok : LineB (Txt.join " " cs) := lineB_join cok
    refine ⟨⟨_, rfl⟩, _, rfl, _, pz, cs, rfl, rfl, .inl (SqL.of Z6.e), join_sum hsp (by omega), by show 1 ≤ sizeLine; decide, fun q hq => ?_⟩
    generalize Txt.join " " cs = ln2 at *
    have s7 := same_upd (o := .lst [.str ln2]) hq
    have L7 := L6.same s7
    have N7 := N6.same s7
    have eq7 := upd_same (H := H6) (a := q) (o := .lst [.str ln2])
    generalize upd H6 q (.lst [.str ln2]) = H7 at *
    have b07 := b06.trans (But2.of s7)
    have tk := tot_at kl
    rw [hal] at tk
    have hP7 : ∀ H H', Same H7 H → Same H H' → Same H7 H' := fun H H' a b => a.trans b
    have hL : ∀ H, Same H7 H → H m = some (.lst ((lines t).map V.str)) := fun H s => s _ _ L7.e
    have hQ : ∀ H, Same H7 H → H q = some (.lst (([ln2] : List Str).map V.str)) := fun H s => s _ _ eq7
    have ltoks : ∀ x ∈ (lines t).take kn, LineB x := fun x hx => lok x (List.mem_of_mem_take hx)
    have ldoks : ∀ n, ∀ x ∈ (lines t).drop n, LineB x := fun n x hx => lok x (List.mem_of_mem_drop hx)
    refine Makes.cat hP7 (Makes.cat hP7 (Makes.tk (i := 2) (j := 3) (n := kn) rfl rfl hL (by omega)).gives (Gives.var (i := 8) (xs := [ln2]) rfl hQ) (by rw [List.length_take]; show _ + 1 ≤ _; omega)).gives (Makes.dr1 (i := 2) (j := 3) (n := kn) rfl rfl hL (by omega)).gives (by rw [List.length_append, List.length_take, List.length_drop]; show _ + 1 + _ ≤ _; omega) _ _ (Same.refl H7) fun pa Ha sa na ea => ?_
    refine Makes.cat hP7 (Makes.cat hP7 (Makes.tk (i := 2) (j := 3) (n := kn) rfl rfl hL (by omega)).gives (Gives.var (i := 8) (xs := [ln2]) rfl hQ) (by rw [List.length_take]; show _ + 1 ≤ _; omega)).gives (Makes.dr1 (i := 2) (j := 3) (n := kn) rfl rfl hL (by omega)).gives (by rw [List.length_append, List.length_take, List.length_drop]; show _ + 1 + _ ≤ _; omega) _ _ sa fun pb Hb sb nb eb => ?_
    refine Makes.cat hP7 (Makes.tk (i := 2) (j := 3) (n := kn) rfl rfl hL (by omega)).gives (Makes.dr1 (i := 2) (j := 3) (n := kn) rfl rfl hL (by omega)).gives (by rw [List.length_take, List.length_drop]; omega) _ _ (sa.trans sb) fun pc Hc sc nc ec => ?_
    refine Makes.cat hP7 (Gives.var (i := 2) (xs := lines t) rfl hL) (Makes.lC (x := "")).gives (by show _ + 1 ≤ _; omega) _ _ ((sa.trans sb).trans sc) fun pd Hd sd nd ed => ?_
    have A7 := (LsA.new N7 na ea).same ((sb.trans sc).trans sd)
    have B7 := (LsA.new (N7.same sa) nb eb).same (sc.trans sd)
    have C7 := (LsA.new (N7.same (sa.trans sb)) nc ec).same sd
    have D7 := LsA.new (N7.same ((sa.trans sb).trans sc)) nd ed
    have s7d := ((sa.trans sb).trans sc).trans sd
    refine ⟨by show 4 ≤ sizeLine; decide, fun z2 hz => ?_⟩
    have sz8 := same_upd (o := .lst [.ref pa, .ref pb, .ref pc, .ref pd]) hz
    have zh2 : z2 ≠ h := let ⟨_, e⟩ := (N7.same s7d).h1; (ne_of_none e hz).symm
    have zl2 : z2 ≠ l := let ⟨_, e⟩ := (N7.same s7d).l1; (ne_of_none e hz).symm
    refine ⟨⟨_, rfl⟩, _, rfl, _, rfl, h, l, 4, rfl, (N7.same s7d).same sz8, by decide, by decide, fun r4 H9 q0 q1 N9 b9 => ?_⟩
    have b09 := (b07.trans (But2.of (s7d.trans sz8))).trans b9
    obtain ⟨pz, cs, az, Z9, cl, cok⟩ : ∃ pz cs, atI [V.ref pa, V.ref pb, V.ref pc, V.ref pd] r4 = some (.ref pz) ∧ LsA h l H9 pz cs ∧ tot cs ≤ t.length + 14 ∧ ∀ x ∈ cs, LineB x := by
      have : r4 = ((0 : Nat) : Int) ∨ r4 = ((1 : Nat) : Int) ∨ r4 = ((2 : Nat) : Int) ∨ r4 = ((3 : Nat) : Int) := by omega
      rcases this with y | y | y | y
      · exact ⟨pa, _, at_of y rfl, (A7.same sz8).but b9, by rw [tot_append, tot_append, tot_one]; omega, all_app (all_app ltoks (all_one jok)) (ldoks _)⟩
      · exact ⟨pb, _, at_of y rfl, (B7.same sz8).but b9, by rw [tot_append, tot_append, tot_one]; omega, all_app (all_app ltoks (all_one jok)) (ldoks _)⟩
      · exact ⟨pc, _, at_of y rfl, (C7.same sz8).but b9, by rw [tot_append]; omega, all_app ltoks (ldoks _)⟩
      · exact ⟨pd, _, at_of y rfl, (D7.same sz8).but b9, by rw [tot_append, tot_one, show Str.length "" = 0 by decide +kernel]; omega, all_app lok (all_one lineB_empty)⟩
    have jlen2 := join_len_le hnl cs
    refine ⟨z2, _, _, _, rfl, rfl, SqL.of (b9 _ _ zh2 zl2 upd_same), az, _, pz, cs, rfl, rfl, .inl (SqL.of Z9.e), join_sum hnl (by omega), ?_⟩
    exact k _ H9 N9 b09 (textOk_join cok).1 (textOk_join cok).2 (by omega)
end
end Cc

/-! The text of drawn bookings. -/
namespace Cc
open PySem PySem.Spec PyProof.Rows L2 TL
theorem neg4 {n : Int} (h : -4 ≤ n) (c : ¬ 0 ≤ n) : n = -4 ∨ n = -3 ∨ n = -2 ∨ n = -1 := by omega
theorem numW_iS {n : Int} (h : -4 ≤ n) : numW (iS n) = some n := by
  by_cases c : 0 ≤ n
  · obtain ⟨m, rfl⟩ := Int.eq_ofNat_of_zero_le c
    unfold numW intL
    rw [tl_num, if_pos (natOk_num m)]
    exact congrArg (fun z : Nat => some (z : Int)) (numL_val m)
  · rcases neg4 h c with rfl | rfl | rfl | rfl <;> decide +kernel
theorem wordB_iS {n : Int} (h : -4 ≤ n ∧ n ≤ 1000000000000000000) : WordB (iS n) ∧ (iS n).length ≤ 40 := by
  by_cases c : 0 ≤ n
  · obtain ⟨m, rfl⟩ := Int.eq_ofNat_of_zero_le c
    have ln : (iS (m : Int)).length ≤ 40 := by
      rw [len_tl, tl_num]
      exact numL_le20 (by omega)
    refine ⟨⟨nS_free (n := m) (.inl (by decide)), nS_free (n := m) (.inl (by decide)), nS_ok m, by omega, fun v hv => ?_⟩, ln⟩
    rw [numW_iS (by omega)] at hv
    have := Option.some.inj hv
    omega
  · have : oddT (iS n) = true := by rcases neg4 h.1 c with rfl | rfl | rfl | rfl <;> decide +kernel
    have := oddT_ok this
    exact ⟨this.1, by omega⟩
theorem wordB_room (b : Bool) : WordB (roomS b) ∧ (roomS b).length ≤ 4 := by
  have : oddT (roomS b) = true := by cases b <;> decide +kernel
  exact ⟨(oddT_ok this).1, by cases b <;> decide +kernel⟩
theorem wordB_bk {k : BkD} (ok : okB k) : ∀ w ∈ bWords k, WordB w := by
  intro w hw
  cases k with
  | turn =>
    rw [List.mem_singleton.mp (show w ∈ [Str.ofString "turn"] from hw)]
    exact (oddT_ok (by decide +kernel)).1
  | meet b n =>
    have hn : 0 ≤ n ∧ n ≤ 1000000000000000000 := ok
    rcases List.mem_cons.mp (show w ∈ [roomS b, iS n] from hw) with z | z
    · rw [z]
      exact (wordB_room b).1
    · have z := List.mem_singleton.mp z; rw [z]
      exact (wordB_iS (by omega)).1
  | alt ns =>
    rcases List.mem_cons.mp (show w ∈ Str.ofString "alternate" :: ns.map iS from hw) with z | z
    · rw [z]
      exact (oddT_ok (by decide +kernel)).1
    · obtain ⟨n, hn, rfl⟩ := List.mem_map.mp z
      have := ok.2.2 n hn
      exact (wordB_iS (by omega)).1
  | ser b n tm mo =>
    obtain ⟨hn, ht, hm, _⟩ := ok
    rcases List.mem_append.mp (show w ∈ ([roomS b, iS n, Str.ofString "times", iS tm] : List Str) ++ (if mo = 0 then [] else [Str.ofString "more", iS mo]) from hw) with hx | hx
    · simp only [List.mem_cons, List.mem_nil_iff, or_false] at hx
      rcases hx with z | z | z | z <;> rw [z]
      · exact (wordB_room b).1
      · exact (wordB_iS (by omega)).1
      · exact (oddT_ok (by decide +kernel)).1
      · exact (wordB_iS (by omega)).1
    · split at hx
      · exact nomatch hx
      · simp only [List.mem_cons, List.mem_nil_iff, or_false] at hx
        rcases hx with z | z <;> rw [z]
        · exact (oddT_ok (by decide +kernel)).1
        · exact (wordB_iS (by omega)).1
theorem iS_short {n : Int} (h : -4 ≤ n ∧ n < 100) : (iS n).length ≤ 2 := by
  by_cases c : 0 ≤ n
  · obtain ⟨m, rfl⟩ := Int.eq_ofNat_of_zero_le c
    exact nS_len (n := m) (by omega)
  · rcases neg4 h.1 c with rfl | rfl | rfl | rfl <;> decide +kernel
theorem tot_bk {k : BkD} (ok : okB k) : tot (bWords k) ≤ 100 := by
  cases k with
  | turn => decide +kernel
  | meet b n =>
    have hn : 0 ≤ n ∧ n ≤ 1000000000000000000 := ok
    show tot [roomS b, iS n] ≤ 100
    have := (wordB_room b).2
    have := (wordB_iS (n := n) (by omega)).2
    rw [tot_cons, tot_cons]
    show _ + 1 + (_ + 1 + 0) ≤ 100
    omega
  | alt ns =>
    show tot (Str.ofString "alternate" :: ns.map iS) ≤ 100
    rw [tot_cons]
    have e : (Str.ofString "alternate").length = 9 := by decide +kernel
    have := tot_bound (n := 2) (l := ns.map iS) fun x hx => by
      obtain ⟨n, hn, rfl⟩ := List.mem_map.mp hx
      have := ok.2.2 n hn
      exact iS_short (by omega)
    rw [List.length_map] at this
    have := ok.2.1
    omega
  | ser b n tm mo =>
    obtain ⟨hn, ht, hm, _⟩ := ok
    show tot (([roomS b, iS n, Str.ofString "times", iS tm] : List Str) ++ (if mo = 0 then [] else [Str.ofString "more", iS mo])) ≤ 100
    have e1 : (Str.ofString "times").length = 5 := by decide +kernel
    have e2 : (Str.ofString "more").length = 4 := by decide +kernel
    have := (wordB_room b).2
    have := (wordB_iS (n := n) (by omega)).2
    have := iS_short (n := tm) (by omega)
    have := iS_short (n := mo) (by omega)
    rw [tot_append, tot_cons, tot_cons, tot_cons, tot_cons]
    split
    · show _ + 1 + (_ + 1 + (_ + 1 + (_ + 1 + 0))) + 0 ≤ 100
      omega
    · rw [tot_cons, tot_cons]
      show _ + 1 + (_ + 1 + (_ + 1 + (_ + 1 + 0))) + (_ + 1 + (_ + 1 + 0)) ≤ 100
      omega
theorem room_alt (b : Bool) : roomS b ≠ "alternate" := by cases b <;> decide +kernel
theorem readB_bk {k : BkD} (ok : okB k) : readB (bWords k) = some (bSteps k) := by
  cases k with
  | turn => exact readB_turn
  | meet b n =>
    have hn : 0 ≤ n ∧ n ≤ 1000000000000000000 := ok
    refine (readB_two (room_alt b)).trans ?_
    rw [numW_iS (by omega)]
    exact meetR_ok (by rw [okMeet_roomS]; exact decide_eq_true hn)
  | alt ns =>
    have e : (ns.map iS).map numW = ns.map some := by
      rw [List.map_map]
      exact List.map_congr_left fun n hn => numW_iS (by have := ok.2.2 n hn; omega)
    have e2 : allN (ns.map some) = ns := by
      rw [allN_map, List.map_map]
      exact List.map_id ns
    refine (readB_alt (ns.map iS)).trans ?_
    unfold altR
    rw [e, e2, if_pos ?_]
    · rfl
    · unfold okAltO
      rw [List.length_map, decide_eq_true (show 1 ≤ ns.length ∧ ns.length ≤ 60 from ⟨ok.1, by have := ok.2.1; omega⟩), Bool.true_and, List.all_map, List.all_eq_true]
      intro n hn
      have := ok.2.2 n hn
      exact decide_eq_true (show 0 ≤ n ∧ n ≤ 1000000000000000000 by omega)
  | ser b n tm mo =>
    obtain ⟨hn, ht, hm, os⟩ := ok
    show readB (serW (roomS b) n tm mo) = _
    by_cases c : mo = 0
    · subst c
      rw [ser_words4 (numW_iS (n := n) (by omega)) (numW_iS (n := tm) (by omega)), readB_four (room_alt b), numW_iS (by omega), numW_iS (by omega)]
      exact serR_ok os
    · have nq : iS mo ≠ "0" := fun z => c (by
        have := numW_iS hm.1
        rw [z, show numW (Str.ofString "0") = some 0 by decide +kernel] at this
        exact (Option.some.inj this).symm)
      rw [ser_words6 (numW_iS (n := n) (by omega)) (numW_iS (n := tm) (by omega)) (numW_iS hm.1) nq, readB_six (room_alt b) nq, numW_iS (by omega), numW_iS (by omega), numW_iS hm.1]
      exact serR_ok os
abbrev lineB (k : BkD) : Str := Txt.join " " (bWords k)
abbrev textB (ks : List BkD) : Str := Txt.join "\n" (ks.map lineB)
theorem bWords_ne (k : BkD) : bWords k ≠ [] := by cases k <;> simp [bWords, altW, serW]
theorem bWords_no (k : BkD) : bWords k ≠ [Str.ofString ""] := by
  cases k with
  | turn => exact fun z => absurd (List.cons.inj z).1 (by decide +kernel)
  | meet b n => exact fun z => nomatch (List.cons.inj z).2
  | alt ns => exact fun z => absurd (List.cons.inj z).1 (by decide +kernel)
  | ser b n tm mo => exact fun z => nomatch (List.cons.inj z).2
theorem words_line {k : BkD} (ok : okB k) : wordsB (lineB k) = bWords k := split_join (s := 32) (S := []) tl_sp (by decide +kernel) (bWords_ne k) fun p hp => (wordB_bk ok p hp).1
theorem text_ok {ks : List BkD} (ne : ks ≠ []) (ok : ∀ k ∈ ks, okB k) : okS (textB ks) ∧ TextOk (textB ks) ∧ lines (textB ks) = ks.map lineB ∧ rowsP (textB ks) = ks.map bWords ∧ (textB ks).length ≤ ks.length * 101 := by
  have lb : ∀ l ∈ ks.map lineB, LineB l := fun l hl => by
    obtain ⟨k, hk, rfl⟩ := List.mem_map.mp hl
    exact lineB_join (wordB_bk (ok k hk))
  have ne2 : ks.map lineB ≠ [] := fun z => ne (List.map_eq_nil_iff.mp z)
  have el : lines (textB ks) = ks.map lineB := split_join (s := 10) (S := []) tl_nl (by decide +kernel) ne2 fun p hp => (lb p hp).1
  have er : rowsT (textB ks) = ks.map bWords := by
    unfold rowsT
    rw [el, List.map_map]
    exact List.map_congr_left fun k hk => words_line (ok k hk)
  refine ⟨(textOk_join lb).1, (textOk_join lb).2, el, ?_, ?_⟩
  · unfold rowsP
    rw [if_neg fun z => ?_, er]
    rw [z] at er
    have e : rowsT "" = [[Str.ofString ""]] := by
      unfold rowsT
      rw [show lines "" = [Str.ofString ""] from split_join (y := "\n") (s := 10) (S := []) tl_nl (by decide +kernel) (parts := [Str.ofString ""]) (by simp) (fun p hp => by rw [List.mem_singleton.mp hp]; exact wordB_empty.2.1)]
      show [wordsB ""] = _
      rw [words_empty]
    rw [e] at er
    cases ks with
    | nil => exact ne rfl
    | cons k r => exact bWords_no k (List.cons.inj er).1.symm
  · refine Nat.le_trans (join_len_le (y := "\n") (by decide +kernel) _) ?_
    have := tot_bound (n := 100) (l := ks.map lineB) fun x hx => by
      obtain ⟨k, hk, rfl⟩ := List.mem_map.mp hx
      have := join_len_le (y := " ") (by decide +kernel) (bWords k)
      have := tot_bk (ok k hk)
      show (Txt.join " " (bWords k)).length ≤ 100
      omega
    rw [List.length_map] at this
    exact this
end Cc

/-! isinstance of a caught error that bears a field. -/
namespace Cc
open PySem PySem.Spec PySem.Calls PyProof.Rows L2
open PySem.W (findIn specialIn takesIn subIn hasDictIn mroIn clsIn kitOne)
section
variable {prog : Program} {w : World} {A : Around} {E : Value → Shared → Prop} {K : PySem.W.Frag} {x D : Addr} {ox od : Obj}
/-- what its class is, asked of the error -/
theorem err_class {s : Shared} {Q : Option Value → Shared → Prop} (C : ExcC K D) (X : K.In s.heap) (I : PySem.W.InstAt s.heap x ox D (some od)) (h : Q (some (.ref D)) { s with toks := s.toks + 1 }) : wpAny (model prog w) A (getAttr? (.ref x) "__class__") Q E s := by
  have hc : (clsIn K D).isSome = true := let ⟨_, e, _⟩ := PySem.W.any_some C.hd; by rw [e]; rfl
  have hf := PySem.W.findObj_data (od := od) hc C.ha C.hn C.ht
  obtain ⟨hp, g, d, t, os⟩ := s
  have ty := I.type (M := model prog w)
  have at1 := PySem.W.looks_findIn (M := model prog w) X C.hg
  have at2 := PySem.W.looks_findIn (M := model prog w) X C.hk
  have at3 := PySem.W.looks_find (M := model prog w) X I hf
  have isE : PySem.W.Looks (model prog w) hp (isInstance (.ref x) (.type "BaseException")) true := ty.andThen (PySem.W.looks_subIn X C.hs)
  have no : ¬ (onTheHeap (Value.ref D) && Value.builtin "BaseException.__getattribute__" == Value.builtin "object.__getattribute__") = true := by rw [show (Value.builtin "BaseException.__getattribute__" == Value.builtin "object.__getattribute__") = false by decide +kernel]; simp
  unfold getAttr? getAttrBy? getAttrBy; refine wpAny_bind (wpAny_mkText (wpAny_bind (wpAny_attempt (wpAny_holding (wpAny_bind (ty.at (wpAny_bind (at1.at ?_))))))))
  show wpAny _ _ (if (onTheHeap (Value.ref D) && Value.builtin "BaseException.__getattribute__" == Value.builtin "object.__getattribute__") = true then _ else _) _ _ _; rw [if_neg no]
  unfold getAttrByItsOwn hookBefore; refine wpAny_bind ?_; rw [if_pos (show onTheHeap (Value.ref D) = true from rfl)]
  refine at2.at (wpAny_bind (wpAny_attempt (wpAny_holding ?_)))
  unfold callGetattribute; rw [show (false && onTheHeap (Value.builtin "BaseException.__getattribute__")) = false from rfl, if_neg Bool.false_ne_true]
  unfold boundAndCalled; rw [PySem.F.excAttr_ValueError.ga.bind (.ref x)]; refine wpAny_bind (wpAny_pure ?_)
  show wpAny _ _ (call (.builtin "BaseException.__getattribute__") [.ref x, .str "__class__" t]) _ _ _; refine wpAny_call (codeAny_call_builtin PySem.F.excAttr_ValueError.ga.plain PySem.F.entry_bexc_ga (@PySem.W.check_slot (model prog w) _ _ ⟨hp, g, d, t + 1, os⟩ "BaseException.__getattribute__" "BaseException" "__getattribute__" (.ref x) [.str "__class__" t] [] _ (by decide +kernel) (by decide +kernel) isE (PySem.F.args_bexc_ga (.ref x) (.str "__class__" t)) ?_))
  unfold Builtin.«object.__getattribute__»; refine wpAny_bind (wpAny_of_eq (a := ((Value.ref x : Value), [Value.str "__class__" t])) (by first | rfl | (simp only [slotArgs]; rfl)) (wpAny_bind (wpAny_pure (wpAny_bind (ty.at (wpAny_bind (at3.at ?_)))))))
  show wpAny _ _ (holding [Value.builtin "object.__class__"] (call (.builtin "getset_descriptor.__get__") [.builtin "object.__class__", .ref x, .ref D]) >>= ret) _ _ _; refine wpAny_bind (wpAny_holding (wpAny_call (PySem.W.class_get (s := ⟨hp, g, d, t + 1, os⟩) (ox := ox) (od := some od) X I C.hm (wpAny_pure ?_))))
  show wpAny _ _ (handedOut (.ref D)) _ _ _; rw [PySem.W.handedOut_of (v := .ref D) rfl]
  first | exact wpAny_pure (wpAny_pure h) | exact wpAny_pure h | exact wpAny_pure (wpAny_bind (wpAny_pure (wpAny_pure h)))
theorem cls_self (hd : hasDictIn K D = true) (t : PySem.W.typeIn K (.ref D) = some (.type "type")) (h : subIn K (.ref D) (.ref D) = some true) : PySem.W.kitCls K (.ref D) (.ref D) = some true := by
  have i2 : (clsIn K D).isSome = true := let ⟨_, e, _⟩ := PySem.W.any_some hd; by rw [e]; rfl
  unfold PySem.W.kitCls
  simp only [i2, t, h]
  rfl
theorem err_kit (C : ExcC K D) (t : PySem.W.typeIn K (.ref D) = some (.type "type")) (hs : subIn K (.ref D) (.ref D) = some true) : PySem.W.KitX K (.ref x) (.ref D) (fun h => PySem.W.InstAt h x ox D (some od)) where
  ty := fun _ _ _ I => I.type
  it := fun _ _ X _ => (PySem.W.kit_cls X (cls_self C.hd t hs)).2.1
  ne := (PySem.W.handS_kitx_exc (x := x) (ox := ox) C.hg C.hk C.hs C.hd C.ha C.hn C.ht C.hm).ne
  ca := fun X I k => err_class C X I k
end
/-- isinstance(e, c), e the error that the suite holds, dd its dict -/
def rIsF (K : PySem.W.Frag) (D a dd : Addr) : List V → Hp → VK → Prop := fun xs H Q => ∃ (c : V) (cv : Value) (b : Bool), xs = [.ref a, c] ∧ (∃ fs, H dd = some (.xd fs)) ∧ (∀ u, RelV c u → u = cv) ∧ kitOne K (.ref D) cv = some b ∧ Q (.bl b) H
theorem call_isF {X : Cx} {a D dd : Addr} {oe : Obj} {pn : List (Addr × Obj)} (C : ExcC X.K D) (t : PySem.W.typeIn X.K (.ref D) = some (.type "type")) (hs : subIn X.K (.ref D) (.ref D) = some true) (hz : Zc (.ref D) (some dd) oe) (hf : ∃ vs, oe.data = .fields vs) : CallR (X.suite a ((a, oe) :: pn)) (.builtin "isinstance") (rIsF X.K D a dd) := by
  intro pins s σ H xs us Q I r ⟨c, cv, b, ex, ⟨fs, ed⟩, hcv, e, q⟩
  subst ex
  match us, r with
  | [_, u], .cons rx (.cons rt .nil) =>
    cases rx
    have ec := hcv _ rt
    subst ec
    obtain ⟨hget, _⟩ := I.pin (a, oe) (List.mem_append_left _ List.mem_cons_self)
    obtain ⟨vs, hv⟩ := hf
    obtain ⟨mA, hns, _⟩ := (show ObjOk X.prog X.w H s.heap dd (.xd fs) from I.hok dd _ ed)
    obtain ⟨od, ho, _⟩ := lookIn_ns hns
    have J : PySem.W.InstAt s.heap a oe D (some od) := ⟨hget, hz.1, by unfold PySem.W.notCls; rw [hv] <;> rfl, by rw [hz.2]; exact ho⟩
    exact PySem.W.kia_one (err_kit C t hs) I.kIn J e (fun z => nomatch z) fun tk => ⟨.bl b, H, I.kept (t' := tk) fun _ _ z => z, rfl, q⟩
/-- .. with a field or without one -/
def rIsG (K : PySem.W.Frag) (D a : Addr) (d : Option Addr) : List V → Hp → VK → Prop := fun xs H Q => ∃ (c : V) (cv : Value) (b : Bool), xs = [.ref a, c] ∧ (∀ dd, d = some dd → ∃ fs, H dd = some (.xd fs)) ∧ (∀ u, RelV c u → u = cv) ∧ kitOne K (.ref D) cv = some b ∧ Q (.bl b) H
theorem call_isG {X : Cx} {a D : Addr} {d : Option Addr} {oe : Obj} {pn : List (Addr × Obj)} (C : ExcC X.K D) (t : PySem.W.typeIn X.K (.ref D) = some (.type "type")) (hs : subIn X.K (.ref D) (.ref D) = some true) (hz : Zc (.ref D) d oe) (hf : ∃ vs, oe.data = .fields vs) : CallR (X.suite a ((a, oe) :: pn)) (.builtin "isinstance") (rIsG X.K D a d) := by
  intro pins s σ H xs us Q I r ⟨c, cv, b, ex, ed, hcv, e, q⟩
  cases d with
  | none => exact call_isE C hz hf pins s σ H xs us Q I r ⟨c, cv, b, ex, hcv, e, q⟩
  | some dd => exact call_isF C t hs hz hf pins s σ H xs us Q I r ⟨c, cv, b, ex, ed dd rfl, hcv, e, q⟩
end Cc

namespace Cc
open PySem PySem.Spec PyProof.Rows L2
/-- where the nine classes of errors stand -/
structure Nine (mg : Str → Option Value) (e0 e1 e2 e3 e4 e5 e6 e7 e8 : Addr) : Prop where
  t0 : mg "DaybookError" = some (.ref e0)
  t1 : mg "DecodeError" = some (.ref e1)
  t2 : mg "InvalidBooking" = some (.ref e2)
  t3 : mg "InvalidNumber" = some (.ref e3)
  t4 : mg "InvalidOperation" = some (.ref e4)
  t5 : mg "InvalidPlan" = some (.ref e5)
  t6 : mg "InvalidText" = some (.ref e6)
  t7 : mg "NotEnough" = some (.ref e7)
  t8 : mg "TooFewChairs" = some (.ref e8)
/-- one of them, asked which it is -/
structure KindA (K : PySem.W.Frag) (D e0 e1 e2 e3 e4 e5 e6 e7 e8 : Addr) (b0 b1 b2 b3 b4 b5 b6 b7 b8 : Bool) : Prop where
  ec : ExcC K D
  xf : XfC K D
  tt : PySem.W.typeIn K (.ref D) = some (.type "type")
  ss : PySem.W.subIn K (.ref D) (.ref D) = some true
  nI : PySem.W.findIn K (.ref D) "index" = some none
  nR : PySem.W.findIn K (.ref D) "row" = some none
  nO : PySem.W.findIn K (.ref D) "offset" = some none
  k0 : PySem.W.kitOne K (.ref D) (.ref e0) = some b0
  k1 : PySem.W.kitOne K (.ref D) (.ref e1) = some b1
  k2 : PySem.W.kitOne K (.ref D) (.ref e2) = some b2
  k3 : PySem.W.kitOne K (.ref D) (.ref e3) = some b3
  k4 : PySem.W.kitOne K (.ref D) (.ref e4) = some b4
  k5 : PySem.W.kitOne K (.ref D) (.ref e5) = some b5
  k6 : PySem.W.kitOne K (.ref D) (.ref e6) = some b6
  k7 : PySem.W.kitOne K (.ref D) (.ref e7) = some b7
  k8 : PySem.W.kitOne K (.ref D) (.ref e8) = some b8
  kv : PySem.W.kitOne K (.ref D) (.type "ValueError") = some true
abbrev words9 : List V := [.str "daybook", .str "code", .str "booking", .str "number", .str "operation", .str "plan", .str "text", .str "enough", .str "few"]
/-- the flags say kind j, whose word is wd -/
structure Flags (b0 b1 b2 b3 b4 b5 b6 b7 b8 : Bool) (j : Nat) (wd : Str) : Prop where
  one : (List.countP (fun z => PyData.eqv z (.bool true)) [PyData.bool b0, .bool b1, .bool b2, .bool b3, .bool b4, .bool b5, .bool b6, .bool b7, .bool b8]) = 1
  sh : SeqAt.shaped (.list [PyData.bool b0, .bool b1, .bool b2, .bool b3, .bool b4, .bool b5, .bool b6, .bool b7, .bool b8]) = true
  pl : PyData.plainAll [PyData.bool b0, .bool b1, .bool b2, .bool b3, .bool b4, .bool b5, .bool b6, .bool b7, .bool b8] = true
  at_ : [PyData.bool b0, .bool b1, .bool b2, .bool b3, .bool b4, .bool b5, .bool b6, .bool b7, .bool b8][j]? = some (.bool true)
  no : ∀ m z, m < j → [PyData.bool b0, .bool b1, .bool b2, .bool b3, .bool b4, .bool b5, .bool b6, .bool b7, .bool b8][m]? = some z → PyData.eqv z (.bool true) = false
  wd : words9[j]? = some (.str wd)
theorem flags_few : Flags false false false false false false false false true 8 "few" := ⟨by decide +kernel, by decide +kernel, by decide +kernel, rfl, fun m z hm hz => by
  match m, hm with
  | 0, _ => cases hz; decide +kernel
  | 1, _ => cases hz; decide +kernel
  | 2, _ => cases hz; decide +kernel
  | 3, _ => cases hz; decide +kernel
  | 4, _ => cases hz; decide +kernel
  | 5, _ => cases hz; decide +kernel
  | 6, _ => cases hz; decide +kernel
  | 7, _ => cases hz; decide +kernel, rfl⟩
theorem flags_enough : Flags false false false false false false false true false 7 "enough" := ⟨by decide +kernel, by decide +kernel, by decide +kernel, rfl, fun m z hm hz => by
  match m, hm with
  | 0, _ => cases hz; decide +kernel
  | 1, _ => cases hz; decide +kernel
  | 2, _ => cases hz; decide +kernel
  | 3, _ => cases hz; decide +kernel
  | 4, _ => cases hz; decide +kernel
  | 5, _ => cases hz; decide +kernel
  | 6, _ => cases hz; decide +kernel, rfl⟩
theorem flags_number : Flags false false false true false false false false false 3 "number" := ⟨by decide +kernel, by decide +kernel, by decide +kernel, rfl, fun m z hm hz => by
  match m, hm with
  | 0, _ => cases hz; decide +kernel
  | 1, _ => cases hz; decide +kernel
  | 2, _ => cases hz; decide +kernel, rfl⟩
theorem flags_booking : Flags false false true false false false false false false 2 "booking" := ⟨by decide +kernel, by decide +kernel, by decide +kernel, rfl, fun m z hm hz => by
  match m, hm with
  | 0, _ => cases hz; decide +kernel
  | 1, _ => cases hz; decide +kernel, rfl⟩
end Cc

/-! A comprehension whose element calls a def with a lambda: what stands around the comprehension is known within. -/
namespace Cc
open PySem PySem.Spec PyProof.Rows L2
open LamX
section
variable {X : Cx}
/-- a comprehension of one clause; its element is judged where the slots around are known -/
theorem pe_lcI {el ta ia : Expr} {fs : List Expr} {sc : Scope} {own : List (Str × Nat)} {ps : Pos} {wi : TI} {g : TG} {tt : TT} {te : L2.St → TE} (hc : X.calm = true) (hN : X.N.Nodup) (hi : PI X ta ia wi) (ok : BlkOk X.N X.env.scope sc own)
    (hg : ∀ (s : Shared) (H : Hp) (C : Addr) (cl : List (Str × Addr)) (fp : List Addr), PG (X.blk s H sc (compEnvC sc cl C X.env) fp) ta g)
    (ht : ∀ (s : Shared) (H : Hp) (C : Addr) (cl : List (Str × Addr)) (fp : List Addr), PTs (X.blk s H sc (compEnvC sc cl C X.env) fp) fs tt)
    (he : ∀ (pins : List (Addr × Obj)) (σ : L2.St) (s : Shared) (H : Hp) (C : Addr) (cl : List (Str × Addr)) (fp : List Addr), Inv X pins σ H s → (∀ b ∈ fp, FpOk X pins H b) → PE (X.blk s H sc (compEnvC sc cl C X.env) fp) el (te σ))
    (hs : ∀ x, foldedSetIterable ia X.env x = pure x := by intro _; rfl) :
    PE X (.ListComp el [⟨ta, ia, fs, 0⟩] sc ps) (fun σ H Q => tLc wi g tt (te σ) (own.map (·.2)) σ H Q) := by
  refine ⟨fun pz z0 sg G0 Qq K0 h => ?_⟩
  rw [eval_ListComp]
  have frees : ∀ y ∈ sc.names, y.2 = .free → ∃ c, X.env.cells.lookup y.1 = some c := fun y hy e => K0.ok.has _ (ok.free y hy e)
  refine wpAny_comprehension_free (use := none) rfl hs (closure_ok frees) ok.kind (fun y hy e => (ok.uniq y hy).trans (congrArg some e)) (thn (hi.run pz z0 sg G0 _ K0 h) fun _ z1 h1 => thn h1 fun iv z2 h2 => ?_)
  obtain ⟨it, fp, tn, Jt, G2, rfl, K2, T, t2, f2, q⟩ := h2
  refine wpAny_newObj_type (newEnv_comp ?_) (by show 0 ≤ sizeLine; decide); obtain ⟨D, hD⟩ : ∃ D, D = z2.heap.objs.size := ⟨_, rfl⟩
  rw [← hD]
  have freeD : G2 D = none := K2.hok.fresh (Nat.le_of_eq hD.symm)
  obtain ⟨W, ⟨m0, w0⟩, turn⟩ := q D freeD
  obtain ⟨z3, hz3⟩ : ∃ z3 : Shared, z3 = { z2 with heap := z2.heap.push { cls := .type "list", data := .seq ([] : List Value).toArray } } := ⟨_, rfl⟩
  have p3 : z3.heap = z2.heap.push { cls := .type "list", data := .seq ([] : List Value).toArray } := by rw [hz3]
  have keep3 : ∀ b o, z2.heap.get? b = some o → z3.heap.get? b = some o := fun b o e => by
    rw [p3]
    exact Heap.get?_push_of_some (h := z2.heap) _ e
  have K3 : Inv X pz sg (upd G2 D (.lst [])) z3 := by
    rw [hz3]
    refine K2.laid (t' := z2.toks) (fun b o e => Heap.get?_push_of_some _ e) (Nat.le_of_eq hD.symm) ⟨Nat.zero_le _, [], 0, .nil, ?_⟩
    rw [hD]
    exact Heap.get?_push_size z2.heap rfl
  have old : ∀ b ∈ fp, b < z2.heap.objs.size := fun b hb => (T.obj _ _ t2 b hb).elim fun _ e => Heap.lt_size e.1
  have f3 : ∀ b ∈ fp, FpOk X pz (upd G2 D (.lst [])) b ∧ b < z3.heap.objs.size := fun b hb =>
    ⟨⟨by rw [upd_ne (by rw [hD]; exact Nat.ne_of_lt (old b hb))]; exact (f2 b hb).1, (f2 b hb).2⟩, by rw [p3, Heap.size_push]; exact Nat.lt_succ_of_lt (old b hb)⟩
  have K4 := block_start K3 ok hN f3
  have Bg := hg z3 (upd G2 D (.lst [])) z3.heap.objs.size (cellsFrom (z3.heap.objs.size + 1) sc.names (cloFrom X.env.cells sc.names [])) fp
  have Bt := ht z3 (upd G2 D (.lst [])) z3.heap.objs.size (cellsFrom (z3.heap.objs.size + 1) sc.names (cloFrom X.env.cells sc.names [])) fp
  have Be := he pz sg z3 (upd G2 D (.lst [])) z3.heap.objs.size (cellsFrom (z3.heap.objs.size + 1) sc.names (cloFrom X.env.cells sc.names [])) fp K3 fun b hb => (f3 b hb).1
  have goal : codeAny (model X.prog X.w) X.A (.compStart (.ListComp el [⟨ta, ia, fs, 0⟩] sc ps) 0 (.ref it) (.ref D) (compEnvC sc (cellsFrom (z3.heap.objs.size + 1) sc.names (cloFrom X.env.cells sc.names [])) z3.heap.objs.size X.env))
      (compPost (model X.prog X.w) X.A X.xe none (EP X pz sg Qq) (.ref D) z3.heap.objs.size) { z3 with heap := pushCells (z3.heap.push { cls := .type "dict", data := .dict #[] }) sc.names } := by
    obtain ⟨ce, hce⟩ : ∃ ce, ce = compEnvC sc (cellsFrom (z3.heap.objs.size + 1) sc.names (cloFrom X.env.cells sc.names [])) z3.heap.objs.size X.env := ⟨_, rfl⟩
    rw [← hce] at K4 Bg Bt Be ⊢
    have lc : ce.locals = z3.heap.objs.size := by rw [hce]; rfl
    obtain ⟨G3, hG3⟩ : ∃ G3, G3 = upd G2 D (.lst []) := ⟨_, rfl⟩
    rw [← hG3] at K3 K4 Bg Bt Be w0 f3
    have nf3 : ∀ b ∈ fp, G3 b = none := fun b hb => (f3 b hb).1.1
    obtain ⟨z4, hz4⟩ : ∃ z4 : Shared, z4 = { z3 with heap := pushCells (z3.heap.push { cls := .type "dict", data := .dict #[] }) sc.names } := ⟨_, rfl⟩
    rw [← hz4] at K4 ⊢
    have t4 : tn 0 z4.heap := T.keep _ _ _ t2 fun b _ o e => by
      rw [hz4]
      exact pushCells_keeps _ _ _ _ (Heap.get?_push_of_some _ (keep3 b o e))
    have fpk : ∀ {sg' : L2.St} {G' : Hp} {z' : Shared}, Inv (X.blk z3 G3 sc ce fp) [] sg' G' z' → (∀ b ∈ fp, G' b = none) → ∀ b ∈ fp, FpOk (X.blk z3 G3 sc ce fp) [] G' b := fun Kk hn b hb =>
      ⟨hn b hb, (Kk.ok.exf b hb).1, Kk.ok.exfs b hb, .inl hb, fun x c e => (Kk.ok.exf b hb).2 x c e, fun p hp => by simp at hp⟩
    have loop : codeAny (model X.prog X.w) X.A (.compLoop (.ListComp el [⟨ta, ia, fs, 0⟩] sc ps) 0 (.ref it) (.ref D) ce) (compPost (model X.prog X.w) X.A X.xe none (EP X pz sg Qq) (.ref D) z3.heap.objs.size) z4 := by
      refine compLoop_any (fun n z => ∃ i G, Inv (X.blk z3 G3 sc ce fp) [] (wipe sg (own.map (·.2))) G z ∧ tn i z.heap ∧ (∀ b ∈ fp, G b = none) ∧ W i n G) ?_ m0 ⟨0, G3, K4, t4, nf3, w0⟩
      rintro n z5 ⟨i, G5, K5, t5, n5, w5⟩
      rcases turn i n G5 w5 with ⟨halt, qq⟩ | ⟨go, Nx, hNx, step⟩
      · refine thnF (T.done (X.blk z3 G3 sc ce fp) rfl rfl rfl hc i [] z5 _ G5 (fun _ _ => False) K5 (fpk K5 n5) t5 halt) fun r z6 ⟨hr, K6⟩ => ?_
        subst hr
        have K7 : Inv X pz sg G5 z6 := K3.call' (ch := fp) K6.os K6.base K6.hok K6.bare fun b hb => ⟨(f3 b hb).1.2.2.2.1, (f3 b hb).1.2.1, (f3 b hb).1.2.2.2.2.1, (f3 b hb).1.2.2.2.2.2⟩
        have nC : G5 z3.heap.objs.size = none := lc ▸ (show G5 ce.locals = none from K6.free)
        obtain ⟨m, hm, _⟩ := K6.loc
        have ff := K3.fpOk (Nat.le_refl _) nC
        refine ⟨m, lc ▸ (show z6.heap.Ns ce.locals m from hm), fun h'' sb => ?_⟩
        obtain ⟨a0, a1, _, a3, a4, a5⟩ := ff
        exact ⟨.ref D, G5, K7.turned (t' := z6.toks) (fun b o hb e => (sb.2 b hb).trans e) a0 a1 a3 a4 a5, rfl, qq⟩
      · refine thnF (T.item (X.blk z3 G3 sc ce fp) rfl rfl rfl hc i [] z5 _ G5 (fun _ _ => False) K5 (fpk K5 n5) t5 go) fun r z6 ⟨u, hr, h6⟩ => ?_
        subst hr
        refine thnF h6 fun _ z7 ⟨x, G7, K7, r7, y7, t7, n7⟩ => ?_
        refine thnF (Bg.run _ z7 _ G7 x u _ (K7.pinned (fpk K7 n7) (T.obj _ _ t7)) r7 (step x G7 y7)) fun _ z8 ⟨sg8, G8, K8, w8, q8⟩ => ?_
        refine thnF (Bt.run _ z8 sg8 G8 _ K8 q8) fun b z9 ⟨G9, K9, q9⟩ => ?_
        have fin : ∀ {z' : Shared} {G' : Hp}, Inv (X.blk z3 G3 sc ce fp) ([] ++ pinsAt fp z7.heap) sg8 G' z' → Nx G' → ∃ m, m < n ∧ ∃ i G, Inv (X.blk z3 G3 sc ce fp) [] (wipe sg (own.map (·.2))) G z' ∧ tn i z'.heap ∧ (∀ b ∈ fp, G b = none) ∧ W i m G := fun {z' G'} Kk nx => by
          obtain ⟨m', lt, w'⟩ := hNx G' nx
          have pin : ∀ b ∈ fp, ∀ o, z7.heap.get? b = some o → z'.heap.get? b = some o ∧ G' b = none := fun b hb o e =>
            let y := Kk.pin (b, o) (List.mem_append_right _ (List.mem_append_right _ (mem_pinsAt hb e)))
            ⟨y.1, y.2.1⟩
          refine ⟨m', lt, i + 1, G', (Kk.unpinned (pins := [])).weak (by rw [← w8, wipe_length]) (fun j v e => by rw [← w8] at e; exact (wipe_some e).1), T.keep _ _ _ t7 fun b hb o e => (pin b hb o e).1, fun b hb => ?_, w'⟩
          obtain ⟨o, e, _⟩ := T.obj _ _ t7 b hb
          exact (pin b hb o e).2
        cases b with
        | false =>
          simp only [Bool.false_eq_true, if_false] at q9 ⊢; exact fin K9 q9
        | true =>
          simp only [if_true] at q9 ⊢
          refine thnF (Be.run _ z9 sg8 G9 _ K9 q9) fun v z10 ⟨y, G10, K10, r10, acc, eD, room, nx⟩ => ?_
          exact app_ok (X := X.blk z3 G3 sc ce fp) K10 eD room r10 fun z11 K11 => fin K11 nx
    exact codeAny_compStart_list loop (T.self X.A 0 _ _ _ t4 loop)
  exact hz3 ▸ goal
end
end Cc

/-! What stands where lambdas were made: the code's table grows, all else stays. -/
namespace Cc
open PySem PySem.Spec PyProof.Rows L2
open LamX
theorem tabs_but {T : List (Addr × Str)} {H H' : Hp} {s : Addr} (t : Tabs T H) (b : But s H H') (hs : ∃ xs, H s = some (.lst xs)) : Tabs T H' := fun p hp => by
  obtain ⟨xs, hx⟩ := hs
  obtain ⟨ps, h1, h2, h3⟩ := t p hp
  refine ⟨ps, b _ _ (ne_of h1 hx fun z => nomatch z) h1, h2, fun pos cv hc => ?_⟩
  obtain ⟨c0, e1, e2⟩ := h3 pos cv hc
  exact ⟨c0, e1, b _ _ (ne_of e2 hx fun z => by unfold CodeO at z; cases z) e2⟩
theorem drawAt_extN {K : PySem.W.Frag} {H H' : Hp} {s : Addr} (h : DrawAt K H s) (e : ExtN H H') : DrawAt K H' s := by
  obtain ⟨a, ns, p, x, y, e1, q, l, z⟩ := h
  exact ⟨a, ns, p, x, y, e _ _ e1 (fun _ z => by cases z), q.keep fun b o u w => e _ _ w fun _ z => (by cases z), l, z⟩
theorem steps_extN {H H' : Hp} {vs : List V} {ss : List Stp} (h : Steps H vs ss) (e : ExtN H H') : Steps H' vs ss := h.mono fun t xs w => e _ _ w fun _ z => by cases z
theorem planAt_extN {C : Addr} {H H' : Hp} {p : Addr} {ss : List Stp} (h : PlanAt C H p ss) (e : ExtN H H') : PlanAt C H' p ss := by
  obtain ⟨dx, tp, ws, a, ⟨o, d0, b⟩, d⟩ := h
  exact ⟨dx, tp, ws, e _ _ a (fun _ z => by cases z), ⟨o, d0, e _ _ b (fun _ z => by cases z)⟩, steps_extN d e⟩
theorem extN_same {H H' : Hp} (s : Same H H') : ExtN H H' := fun b o e _ => s b o e
theorem extN_lst {H H' : Hp} {l : Addr} {xs : List V} (e : ExtN H H') (h : H l = some (.lst xs)) : H' l = some (.lst xs) := e _ _ h fun _ z => by cases z
theorem extN_none {H H' : Hp} {l : Addr} {xs : List V} (h : H l = none) (h' : H' l = some (.lst xs)) : H ≠ H' := fun z => by rw [z, h'] at h; cases h
/-- an append to a list: what else stands -/
theorem lamAt_but {H H' : Hp} {l f : Addr} {q : Str} {params : Arguments} {body : Expr} {scope : Scope} {cl : List (Str × Addr)} {ds : List V} (h : LamAt H f q params body scope cl ds) (b : But l H H') (hl : ∃ xs, H l = some (.lst xs)) : LamAt H' f q params body scope cl ds := by
  obtain ⟨xs, hx⟩ := hl
  obtain ⟨c', dv, h1, h2, h3⟩ := h
  refine ⟨c', dv, b _ _ (ne_of h1 hx fun z => by unfold LamO at z; cases z) h1, b _ _ (ne_of h2 hx fun z => by unfold CodeO at z; cases z) h2, h3.imp id fun ⟨T, v, z1, z2, z3⟩ => ⟨T, v, z1, z2, b _ _ (ne_of z3 hx fun z => nomatch z) z3⟩⟩
theorem but_app {H : Hp} {l : Addr} {o : HO} : But l H (upd H l o) := but_upd
/-- a refusal as data -/
abbrev noNum : PyData := .tuple [.str "InvalidNumber"]
def NoAt (H : Hp) (v : V) : Prop := ∃ t, v = .ref t ∧ H t = some (.tup [.str "InvalidNumber"])
theorem dp_no {K : PySem.W.Frag} {H : Hp} : ∀ {vs : List V}, (∀ v ∈ vs, NoAt H v) → DpAll K H vs (List.replicate vs.length noNum)
  | [], _ => .nil
  | v :: vs, h => by
    obtain ⟨t, rfl, ht⟩ := h v List.mem_cons_self
    exact .cons (.tup (SqT.of ht) (.cons (.str _) .nil)) (dp_no fun u hu => h u (List.mem_cons_of_mem _ hu))
theorem shaped_no : SeqAt.shaped (.list (List.replicate 5 noNum)) = true := by decide +kernel
theorem eqv_no : PyData.eqv (.list (List.replicate 5 noNum)) (.list (List.replicate 5 noNum)) = true := by decide +kernel
/-- the exceptions of the class at CN alone -/
def eN (CN : Addr) (E : XK) : XK := fun cls d H => cls = .ref CN ∧ E cls d H
end Cc

/-! The second part's outcome of a lambda: any of the nine errors. -/
namespace Cc
open PySem PySem.Spec PyProof.Rows L2
open LamX
abbrev sOutcome : Stmt := top 40
abbrev oN : List Str := ["_law_call", "e", "_law_kinds", "_law_words", "_law_word"]
theorem scOutcome : FnScope oN ["_law_call"] (defScope sOutcome) := ⟨rfl, rfl, rfl, by decide +kernel, rfl, by decide +kernel, by decide +kernel⟩
def hOut : List Stmt := match defBody sOutcome with
  | [.Try _ [.ExceptHandler _ _ b _] _ _ _] => b
  | _ => []
/-- what is told of an error: its word, and its field where the word has one -/
def Told (wd : Str) (d : Option Addr) (H : Hp) (r : List V) : Prop :=
  (inV (.str wd) [.str "operation", .str "plan", .str "few"] = true ∧ ∃ dd fs v, d = some dd ∧ H dd = some (.xd fs) ∧ fs.lookup ("index" : Str) = some v ∧ r = [.str wd, v]) ∨
  (inV (.str wd) [.str "operation", .str "plan", .str "few"] = false ∧ inV (.str wd) [.str "daybook", .str "text"] = true ∧ ∃ dd fs v, d = some dd ∧ H dd = some (.xd fs) ∧ fs.lookup ("row" : Str) = some v ∧ r = [.str wd, v]) ∨
  (inV (.str wd) [.str "operation", .str "plan", .str "few"] = false ∧ inV (.str wd) [.str "daybook", .str "text"] = false ∧ decide (V.str wd = V.str "code") = true ∧ ∃ dd fs v, d = some dd ∧ H dd = some (.xd fs) ∧ fs.lookup ("offset" : Str) = some v ∧ r = [.str wd, v]) ∨
  (inV (.str wd) [.str "operation", .str "plan", .str "few"] = false ∧ inV (.str wd) [.str "daybook", .str "text"] = false ∧ decide (V.str wd = V.str "code") = false ∧ r = [.str wd])
section
variable {K : PySem.W.Frag} {mg : Str → Option Value} {D e0 e1 e2 e3 e4 e5 e6 e7 e8 : Addr} {b0 b1 b2 b3 b4 b5 b6 b7 b8 : Bool} {j : Nat} {wd : Str}
def hRdA (a D : Addr) (wd : Str) (cls : Value) (d : Option Addr) : TS := fun De σ H => cls = .ref D ∧ (∃ x0 x2 x3 x4, σ = [x0, some (.ref a), x2, x3, x4]) ∧ (∀ dd, d = some dd → ∃ fs, H dd = some (.xd fs)) ∧ ∃ r, Told wd d H r ∧ ∀ p H', Same H H' → H' p = some (.tup r) → De.rt (.ref p) H'
theorem hand_any {P : Program} {w : World} {base : Heap} {fO a : Addr} {cdv cls : Value} {A : Around} {outer : List Env} {s : Shared} {H : Hp} {k : Nat} {oe : Obj} {d : Option Addr} {pn : List (Addr × Obj)} (NG : Nine mg e0 e1 e2 e3 e4 e5 e6 e7 e8) (KA : KindA K D e0 e1 e2 e3 e4 e5 e6 e7 e8 b0 b1 b2 b3 b4 b5 b6 b7 b8) (FL : Flags b0 b1 b2 b3 b4 b5 b6 b7 b8 j wd) (B : Bt mg)
    (hr : Room k (A.deeper (envOfC "_law_outcome" (defScope sOutcome) s.heap.objs.size fO cdv))) (hz0 : Zc cls d oe) (hf : ∃ vs, oe.data = .fields vs) :
    PSs ((cxOf CX0 P w K mg base oN "_law_outcome" (defScope sOutcome) fO cdv A outer s H E0).nox.suite a ((a, oe) :: pn)) hOut (hRdA a D wd cls d) := by
  refine ⟨fun pins z σ Hz De I ⟨e1, ⟨x0, x2, x3, x4, e3⟩, dx, r, tl, k⟩ => ?_⟩
  subst e1 e3
  have hz : Zc (.ref D) d oe := hz0
  suffices h : ∃ t, PSs ((cxOf CX0 P w K mg base oN "_law_outcome" (defScope sOutcome) fO cdv A outer s H E0).nox.suite a ((a, oe) :: pn)) hOut t ∧ t De [x0, some (.ref a), x2, x3, x4] Hz from let ⟨t, h1, h2⟩ := h; h1.run pins z _ Hz De I h2
  have h65 : ((cxOf CX0 P w K mg base oN "_law_outcome" (defScope sOutcome) fO cdv A outer s H E0).nox.suite a ((a, oe) :: pn)).A.units + 65 < cLine := by
    have z := room65 hr
    exact z
  refine ⟨_, pss_cons (ps_set (i := 2) scOutcome.nd rfl (.inl rfl) (pe_lst (pa_cons (pe_callB (call_isG KA.ec KA.tt KA.ss hz hf) (by rfl) B.isinstance (by decide +kernel) (pa_cons (pv 1) (pa_cons (pe_glob (v := .ref e0) rfl NG.t0 rfl) pa_nil))) (pa_cons (pe_callB (call_isG KA.ec KA.tt KA.ss hz hf) (by rfl) B.isinstance (by decide +kernel) (pa_cons (pv 1) (pa_cons (pe_glob (v := .ref e1) rfl NG.t1 rfl) pa_nil))) (pa_cons (pe_callB (call_isG KA.ec KA.tt KA.ss hz hf) (by rfl) B.isinstance (by decide +kernel) (pa_cons (pv 1) (pa_cons (pe_glob (v := .ref e2) rfl NG.t2 rfl) pa_nil))) pa_nil)))))
      (pss_cons (ps_expr (pe_bm PySem.F.plainAttrs_list PySem.F.slot_list_extend PySem.F.type_list_extend mt_extend (pv 2) (pa_cons (pe_lst (pa_cons (pe_callB (call_isG KA.ec KA.tt KA.ss hz hf) (by rfl) B.isinstance (by decide +kernel) (pa_cons (pv 1) (pa_cons (pe_glob (v := .ref e3) rfl NG.t3 rfl) pa_nil))) (pa_cons (pe_callB (call_isG KA.ec KA.tt KA.ss hz hf) (by rfl) B.isinstance (by decide +kernel) (pa_cons (pv 1) (pa_cons (pe_glob (v := .ref e4) rfl NG.t4 rfl) pa_nil))) (pa_cons (pe_callB (call_isG KA.ec KA.tt KA.ss hz hf) (by rfl) B.isinstance (by decide +kernel) (pa_cons (pv 1) (pa_cons (pe_glob (v := .ref e5) rfl NG.t5 rfl) pa_nil))) pa_nil)))) pa_nil)))
      (pss_cons (ps_expr (pe_bm PySem.F.plainAttrs_list PySem.F.slot_list_extend PySem.F.type_list_extend mt_extend (pv 2) (pa_cons (pe_lst (pa_cons (pe_callB (call_isG KA.ec KA.tt KA.ss hz hf) (by rfl) B.isinstance (by decide +kernel) (pa_cons (pv 1) (pa_cons (pe_glob (v := .ref e6) rfl NG.t6 rfl) pa_nil))) (pa_cons (pe_callB (call_isG KA.ec KA.tt KA.ss hz hf) (by rfl) B.isinstance (by decide +kernel) (pa_cons (pv 1) (pa_cons (pe_glob (v := .ref e7) rfl NG.t7 rfl) pa_nil))) (pa_cons (pe_callB (call_isG KA.ec KA.tt KA.ss hz hf) (by rfl) B.isinstance (by decide +kernel) (pa_cons (pv 1) (pa_cons (pe_glob (v := .ref e8) rfl NG.t8 rfl) pa_nil))) pa_nil)))) pa_nil)))
      (pss_cons (ps_if (PW.pt (pw_or (pt_cmpR op_ne (pe_bm PySem.F.plainAttrs_list PySem.F.slot_list_count PySem.F.type_list_count (mt_countL h65) (pv 2) (pa_cons pe_bl pa_nil)) pe_int (nomark _)) (pw_or1 (pt_not (pt_val (pe_callB (call_isG KA.ec KA.tt KA.ss hz hf) (by rfl) B.isinstance (by decide +kernel) (pa_cons (pv 1) (pa_cons (pe_bltn (v := .ty "ValueError") (by rfl) B.verr (by decide +kernel) rfl) pa_nil))))))))
        (pss_one (ps_ret (pe_tup (pa_cons pe_str pa_nil)))) pss_nil)
      (pss_cons (ps_set (i := 3) scOutcome.nd rfl (.inl rfl) (pe_lst (pa_cons pe_str (pa_cons pe_str (pa_cons pe_str (pa_cons pe_str (pa_cons pe_str (pa_cons pe_str (pa_cons pe_str (pa_cons pe_str (pa_cons pe_str pa_nil)))))))))))
      (pss_cons (ps_set (i := 4) scOutcome.nd rfl (.inl rfl) (pe_ix ix_list (pv 3) (pe_bm PySem.F.plainAttrs_list PySem.F.slot_list_index PySem.F.type_list_index (mt_indexD h65) (pv 2) (pa_cons pe_bl pa_nil)) (fun _ _ => rfl)))
      (pss_cons (ps_if (pt_cmpR op_in_seq (pv 4) (pe_tup (pa_cons pe_str (pa_cons pe_str (pa_cons pe_str pa_nil)))) (by rfl))
        (pss_one (ps_ret (pe_tup (pa_cons (pv 4) (pa_cons (pe_xf KA.xf KA.nI hz hf (pv 1)) pa_nil))))) pss_nil)
      (pss_cons (ps_if (pt_cmpR op_in_seq (pv 4) (pe_tup (pa_cons pe_str (pa_cons pe_str pa_nil))) (by rfl))
        (pss_one (ps_ret (pe_tup (pa_cons (pv 4) (pa_cons (pe_xf KA.xf KA.nR hz hf (pv 1)) pa_nil))))) pss_nil)
      (pss_one (ps_ret (pe_ifExp (pt_cmpR op_eq (pv 4) pe_str (nomark _)) (pe_tup (pa_cons (pv 4) (pa_cons (pe_xf KA.xf KA.nO hz hf (pv 1)) pa_nil))) (pe_tup (pa_cons (pv 4) pa_nil)))))))))))), ?_⟩
  have dk : ∀ H', Same Hz H' → ∀ dd, d = some dd → ∃ fs, H' dd = some (.xd fs) := fun H' s dd e => let ⟨fs, q⟩ := dx dd e; ⟨fs, s _ _ q⟩
  refine ⟨_, rfl, .ref e0, _, b0, rfl, dx, fun u h => h, KA.k0, _, rfl, .ref e1, _, b1, rfl, dx, fun u h => h, KA.k1, _, rfl, .ref e2, _, b2, rfl, dx, fun u h => h, KA.k2, by show 3 ≤ sizeLine; decide, fun l1 h1 => ?_⟩
  have s1 := same_upd (o := .lst [.bl b0, .bl b1, .bl b2]) h1
  have g1 := upd_same (H := Hz) (a := l1) (o := .lst [.bl b0, .bl b1, .bl b2])
  generalize upd Hz l1 (.lst [.bl b0, .bl b1, .bl b2]) = H1 at *
  refine ⟨_, rfl, .inl ⟨rfl, _, SqL.of g1⟩, _, rfl, .ref e3, _, b3, rfl, dk _ s1, fun u h => h, KA.k3, _, rfl, .ref e4, _, b4, rfl, dk _ s1, fun u h => h, KA.k4, _, rfl, .ref e5, _, b5, rfl, dk _ s1, fun u h => h, KA.k5, by show 3 ≤ sizeLine; decide, fun l2 h2 => ?_⟩
  refine ⟨l1, l2, _, _, rfl, rfl, (same_upd h2) _ _ g1, upd_same, by show 6 ≤ sizeLine; decide, ?_⟩
  have nx : ∀ (H' : Hp) (zs : List V), Same Hz H' → Same Hz (upd H' l1 (.lst zs)) := fun H' zs s b o e => by
    rw [upd_ne (ne_of_none e h1)]
    exact s _ _ e
  have s2 := nx _ [.bl b0, .bl b1, .bl b2, .bl b3, .bl b4, .bl b5] (s1.trans (same_upd (o := .lst [.bl b3, .bl b4, .bl b5]) h2))
  have g2 := upd_same (H := upd H1 l2 (.lst [.bl b3, .bl b4, .bl b5])) (a := l1) (o := .lst [.bl b0, .bl b1, .bl b2, .bl b3, .bl b4, .bl b5])
  simp only [List.cons_append, List.nil_append]
  generalize upd (upd H1 l2 (.lst [.bl b3, .bl b4, .bl b5])) l1 (.lst [.bl b0, .bl b1, .bl b2, .bl b3, .bl b4, .bl b5]) = H2 at *
  refine ⟨_, rfl, .inl ⟨rfl, _, SqL.of g2⟩, _, rfl, .ref e6, _, b6, rfl, dk _ s2, fun u h => h, KA.k6, _, rfl, .ref e7, _, b7, rfl, dk _ s2, fun u h => h, KA.k7, _, rfl, .ref e8, _, b8, rfl, dk _ s2, fun u h => h, KA.k8, by show 3 ≤ sizeLine; decide, fun l3 h3 => ?_⟩
  refine ⟨l1, l3, _, _, rfl, rfl, (same_upd h3) _ _ g2, upd_same, by show 9 ≤ sizeLine; decide, ?_⟩
  have s3 := nx _ [.bl b0, .bl b1, .bl b2, .bl b3, .bl b4, .bl b5, .bl b6, .bl b7, .bl b8] (s2.trans (same_upd (o := .lst [.bl b6, .bl b7, .bl b8]) h3))
  have g3 := upd_same (H := upd H2 l3 (.lst [.bl b6, .bl b7, .bl b8])) (a := l1) (o := .lst [.bl b0, .bl b1, .bl b2, .bl b3, .bl b4, .bl b5, .bl b6, .bl b7, .bl b8])
  simp only [List.cons_append, List.nil_append]
  generalize upd (upd H2 l3 (.lst [.bl b6, .bl b7, .bl b8])) l1 (.lst [.bl b0, .bl b1, .bl b2, .bl b3, .bl b4, .bl b5, .bl b6, .bl b7, .bl b8]) = H3 at *
  have dp : ∀ H', DpAll K H' [.bl b0, .bl b1, .bl b2, .bl b3, .bl b4, .bl b5, .bl b6, .bl b7, .bl b8] [.bool b0, .bool b1, .bool b2, .bool b3, .bool b4, .bool b5, .bool b6, .bool b7, .bool b8] := fun H' => .cons (.bl _) (.cons (.bl _) (.cons (.bl _) (.cons (.bl _) (.cons (.bl _) (.cons (.bl _) (.cons (.bl _) (.cons (.bl _) (.cons (.bl _) .nil))))))))
  refine ⟨_, rfl, .inl ⟨rfl, _, SqL.of g3⟩, l1, _, .bl true, .bool true, _, rfl, rfl, SqL.of g3, dp _, .bl _, FL.sh, by decide +kernel, FL.pl, by decide +kernel, ?_⟩
  rw [FL.one]
  refine ⟨rfl, _, rfl, iteF ?_⟩
  refine ⟨_, rfl, .ty "ValueError", _, true, rfl, dk _ s3, fun u h => h, KA.kv, _, rfl, iteF ?_⟩
  refine ⟨by show 9 ≤ sizeLine; decide, fun l4 h4 => ?_⟩
  have s4 := s3.trans (same_upd (o := .lst [.str "daybook", .str "code", .str "booking", .str "number", .str "operation", .str "plan", .str "text", .str "enough", .str "few"]) h4)
  have g4 := (same_upd (o := .lst [.str "daybook", .str "code", .str "booking", .str "number", .str "operation", .str "plan", .str "text", .str "enough", .str "few"]) h4) _ _ g3
  have w4 := upd_same (H := H3) (a := l4) (o := .lst [.str "daybook", .str "code", .str "booking", .str "number", .str "operation", .str "plan", .str "text", .str "enough", .str "few"])
  generalize upd H3 l4 (.lst [.str "daybook", .str "code", .str "booking", .str "number", .str "operation", .str "plan", .str "text", .str "enough", .str "few"]) = H4 at *
  refine ⟨_, rfl, _, rfl, .inl ⟨rfl, _, SqL.of g4⟩, l1, .bl true, .bool true, _, j, .bool true, rfl, rfl, .lst (SqL.of g4) (dp _), .bl _, FL.sh, by decide +kernel, FL.at_, by decide +kernel, FL.no, l4, _, _, .str wd, rfl, rfl, SqL.of w4, at_of (j := j) rfl FL.wd, ?_⟩
  have tk : ∀ {H' dd fs}, Same Hz H' → Hz dd = some (.xd fs) → H' dd = some (.xd fs) := fun s e => s _ _ e
  refine ⟨_, rfl, by show 3 ≤ sizeLine; decide, fun l5 h5 => ⟨l5, _, rfl, .inr (SqT.of upd_same), rfl, rfl, _, rfl, ?_⟩⟩
  have s5 := s4.trans (same_upd (o := .tup [.str "operation", .str "plan", .str "few"]) h5)
  generalize upd H4 l5 (.tup [.str "operation", .str "plan", .str "few"]) = H5 at *
  rcases tl with ⟨f1, dd, fs, v, ed, ex, el, er⟩ | tl
  · subst er ed
    exact ifT f1 ⟨_, rfl, _, rfl, rfl, rfl, dd, fs, v, rfl, tk s5 ex, el, by show 2 ≤ sizeLine; decide, fun p hp => k p _ (s5.trans (same_upd hp)) upd_same⟩
  have f1 : inV (.str wd) [.str "operation", .str "plan", .str "few"] = false := by
    rcases tl with q | q | q
    · exact q.1
    · exact q.1
    · exact q.1
  refine ifF f1 ⟨_, rfl, by show 2 ≤ sizeLine; decide, fun l6 h6 => ⟨l6, _, rfl, .inr (SqT.of upd_same), rfl, rfl, _, rfl, ?_⟩⟩
  have s6 := s5.trans (same_upd (o := .tup [.str "daybook", .str "text"]) h6)
  generalize upd H5 l6 (.tup [.str "daybook", .str "text"]) = H6 at *
  rcases tl with ⟨_, f2, dd, fs, v, ed, ex, el, er⟩ | ⟨_, f2, f3, dd, fs, v, ed, ex, el, er⟩ | ⟨_, f2, f3, er⟩
  · subst er ed
    exact ifT f2 ⟨_, rfl, _, rfl, rfl, rfl, dd, fs, v, rfl, tk s6 ex, el, by show 2 ≤ sizeLine; decide, fun p hp => k p _ (s6.trans (same_upd hp)) upd_same⟩
  · subst er ed
    exact ifF f2 ⟨_, rfl, rfl, _, rfl, ifT f3 ⟨_, rfl, _, rfl, rfl, rfl, dd, fs, v, rfl, tk s6 ex, el, by show 2 ≤ sizeLine; decide, fun p hp => k p _ (s6.trans (same_upd hp)) upd_same⟩⟩
  · subst er
    exact ifF f2 ⟨_, rfl, rfl, _, rfl, ifF f3 ⟨_, rfl, by show 1 ≤ sizeLine; decide, fun p hp => k p _ (s6.trans (same_upd hp)) upd_same⟩⟩
end
/-- a lambda at f of this def, and what its call does -/
def CanAct (X : Cx) (k : Nat) (σ : L2.St) (f : Addr) (E : XK) (H : Hp) (Q : VK) : Prop :=
  ∃ (params : Arguments) (body : Expr) (scope : Scope) (ds : List V) (tb : TE), LamAt H f (X.env.qual ++ "<lambda>") params body scope (cloFrom X.env.cells scope.names []) ds ∧ LamN X.N X.env.scope scope ∧ LamBind params body scope ds ∧
    (ds = [] → ∀ (q : Str) (cl : List (Str × Addr)) (pm cv ctv : Value), bindArgs (laFn q params body scope cl pm .none cv ctv) ⟨[], []⟩ = pure []) ∧
    (∀ (A : Around) (outer : List Env) (s : Shared) (H : Hp) (c' : Addr), Room k (A.deeper (lamEnv X scope s.heap.objs.size f c')) → PE (lamCx X A outer s H E scope f c') body tb) ∧ tb σ H Q
theorem pe_can {X : Cx} {pins : List (Addr × Obj)} {σ : L2.St} {H : Hp} {s : Shared} {CXg : CXT} {Eg : XK} {Ng : List Str} {qg : Str} {sg : Scope} {g f : Addr} {cdg : Value} {k i : Nat} {a : Str} {pn : List (Addr × Obj)} {xe : Value → Shared → Prop} {W : WX} {E : XK} {p1 p2 : Pos}
    (I : Inv X pins σ H s) (tk : Takes ((cxOf CXg X.prog X.w X.K X.mg X.base Ng qg sg g cdg X.A X.stack s H Eg).tr pn xe) W) (hW : ∀ cls d σ' H', E cls d H' → W cls d σ' H') (hr : Room (k + 1) (X.A.deeper (envOfC qg sg s.heap.objs.size g cdg)))
    (hN : Ng[i]? = some a) (hv : Vis sg a) (hd : (a == ("__debug__" : Str)) = false := by decide) (hcd : (a == ("__classdict__" : Str)) = false := by decide) : PE ((cxOf CXg X.prog X.w X.K X.mg X.base Ng qg sg g cdg X.A X.stack s H Eg).tr pn xe) (.Call (.Name a p1) [] [] p2) (fun σZ HZ Q => σZ[i]? = some (some (.ref f)) ∧ CanAct X k σ f E HZ Q) := by
  refine ⟨fun pinsZ sZ σZ HZ Q IZ ⟨hs, params, body, scope, ds, tb, h1, h2, h3, h4, h5, h6⟩ => ?_⟩
  exact (la_act (i := i) I h2 h3 h4 tk hW hr h5 hN hv hd hcd).run pinsZ sZ σZ HZ Q IZ ⟨hs, h1, h6⟩
/-- an own error, its word -/
def IsKind (K : PySem.W.Frag) (CE e0 e1 e2 e3 e4 e5 e6 e7 e8 D : Addr) (wd : Str) : Prop := PySem.W.exmOne K (.ref D) (.ref CE) = some true ∧ ∃ (b0 b1 b2 b3 b4 b5 b6 b7 b8 : Bool) (j : Nat), KindA K D e0 e1 e2 e3 e4 e5 e6 e7 e8 b0 b1 b2 b3 b4 b5 b6 b7 b8 ∧ Flags b0 b1 b2 b3 b4 b5 b6 b7 b8 j wd
/-- what is refused tells so -/
def OutA (K : PySem.W.Frag) (CE e0 e1 e2 e3 e4 e5 e6 e7 e8 : Addr) (Q : VK) : XK := fun cls d H' => ∃ (D : Addr) (wd : Str) (r : List V), cls = .ref D ∧ IsKind K CE e0 e1 e2 e3 e4 e5 e6 e7 e8 D wd ∧ (∀ dd, d = some dd → ∃ fs, H' dd = some (.xd fs)) ∧ Told wd d H' r ∧ ∀ p H2, Same H' H2 → H2 p = some (.tup r) → Q (.ref p) H2
def hRdX (K : PySem.W.Frag) (CE e0 e1 e2 e3 e4 e5 e6 e7 e8 a : Addr) (cls : Value) (d : Option Addr) : TS := fun De σ H => ∃ (D : Addr) (wd : Str), IsKind K CE e0 e1 e2 e3 e4 e5 e6 e7 e8 D wd ∧ hRdA a D wd cls d De σ H
/-- what comes out is told with the word value -/
def outQ (Q : VK) : VK := fun v H2 => ([V.str "value", v] : List V).length ≤ sizeLine ∧ ∀ p, H2 p = none → Q (.ref p) (upd H2 p (.tup [.str "value", v]))
theorem takes_len {X : Cx} {W : WX} (t : Takes X W) : Takes X (fun c d σ H => σ.length = X.N.length → W c d σ H) := fun u s' ⟨a, B, sI, pins, σ, H, cls, d, e, I, nb, up, sky, na, os, ag, w⟩ =>
  t u s' ⟨a, B, sI, pins, σ, H, cls, d, e, I, nb, up, sky, na, os, ag, w I.len⟩
/-- _law_outcome(e), e a lambda of this def -/
theorem pe_outA {X : Cx} {fO CE e0 e1 e2 e3 e4 e5 e6 e7 e8 : Addr} {fdO : FuncData} {k : Nat} {tl : TE} {e : Expr} {p pos : Pos}
    (F : Fun X.K "_law_outcome" "_law_outcome" sOutcome fO fdO) (at_ : X.mg "_law_outcome" = some (.ref fO)) (kp : PySem.W.keepIn X.K (.ref fO) = true) (hb : Binds X.K fdO ["_law_call"] [])
    (hCE : X.mg "ChairError" = some (.ref CE)) (NG : Nine X.mg e0 e1 e2 e3 e4 e5 e6 e7 e8) (B : Bt X.mg) (hr : Room (k + 2) X.A) (hg : Gl X "_law_outcome") (hl : PE X e tl)
    (he : starEach [e] X.env = (false, eval e X.env) :: starEach [] X.env := by rfl) (hpl : (backTo pos (starEach [] X.env)).any (·.1) = false := by rfl) :
    PE X (.Call (.Name "_law_outcome" p) [e] [] pos) (fun σ H Q => tCons tl tNil σ H fun vs H1 => ∃ f, vs = [.ref f] ∧ CanAct X k σ f (OutA X.K CE e0 e1 e2 e3 e4 e5 e6 e7 e8 Q) H1 (outQ Q)) := by
  refine ⟨fun pins s σ H Q I ht0 => ?_⟩
  refine wpAny_Call_Name_kw (ld_glob I hg at_ ?_ (by decide))
  refine PySem.W.callWith_K (h₀ := X.base) I.ok.mod.kin kp (thn ((pa_cons hl pa_nil he).run pos pins s σ H _ I ht0) fun us z1 ⟨vs, H1, I1, r, f, ev, ht⟩ => ⟨I1.kIn, ?_⟩) he hpl
  subst ev
  obtain ⟨oc, od, kV, doc, pm, an, cdv, ct, osl, rfl, lk, hcdO⟩ := F.ex
  have rc : codeAny (model X.prog X.w) X.A (.call (.ref fO) ⟨us, []⟩) (CR CX0 X.stack X.prog X.w H1 z1 Q E0) z1 := by
    have bt := hb z1 us I1.kIn (by rw [List.append_nil, ← r.length]; rfl)
    rw [List.append_nil] at bt
    refine run_ofS (CX := CX0) (N := oN) (ps := ["_law_call"]) lk hcdO scOutcome hr I1.env0 bt r rfl fun hr' => ?_
    have hgl : Gl (cxOf CX0 X.prog X.w X.K X.mg X.base oN "_law_outcome" (defScope sOutcome) fO cdv X.A X.stack z1 H1 E0).nox "ChairError" := rfl
    suffices h : ∃ t, PSs (cxOf CX0 X.prog X.w X.K X.mg X.base oN "_law_outcome" (defScope sOutcome) fO cdv X.A X.stack z1 H1 E0).nox (defBody sOutcome) t ∧ t { nx := fun _ H' => Q .non H', rt := Q } (L2.start oN [.ref f]) H1 from let ⟨t, h1, h2⟩ := h; ⟨t, h1.nox, h2⟩
    refine ⟨_, pss_one (ps_try_as (i := 1) (X := (cxOf CX0 X.prog X.w X.K X.mg X.base oN "_law_outcome" (defScope sOutcome) fO cdv X.A X.stack z1 H1 E0).nox) (c := .ref CE)
      (tb := fun W D σ' H' => ∃ Ech : XK, (∀ cls d σ' H', σ'.length = 5 → Ech cls d H' → W cls d σ' H') ∧ σ'[0]? = some (some (.ref f)) ∧ CanAct X k σ f Ech H' (outQ D.rt))
      (ts := fun a cls d => hRdX X.K CE e0 e1 e2 e3 e4 e5 e6 e7 e8 a cls d)
      rfl rfl scOutcome.nd rfl rfl ⟨hgl, by decide, .inl hCE⟩ L2.takes0 (fun W pn xe tk _ => ?_) (fun a oe cls d pn hz hf => ⟨fun pz z σz Hz De Iz ⟨D, wd, ⟨_, b0, b1, b2, b3, b4, b5, b6, b7, b8, j, KA, FL⟩, h⟩ => (hand_any NG KA FL B hr' hz hf).run pz z σz Hz De Iz h⟩)), ?_⟩
    · refine ⟨fun pz z σz Hz D Iz ⟨Ech, hW, h1, h2⟩ => ?_⟩
      exact (pss_one (ps_ret (pe_tup (pa_cons pe_str (pa_cons (pe_can (CXg := CX0) (Eg := E0) (Ng := oN) (i := 0) (E := Ech) I1 (takes_len tk) (fun cls d σ' H' e hl => hW cls d σ' H' hl e) hr' rfl (.inl rfl)) pa_nil))))).run pz z σz Hz D Iz ⟨h1, h2⟩
    · refine ⟨OutA X.K CE e0 e1 e2 e3 e4 e5 e6 e7 e8 Q, fun cls d σ' H' h2 ⟨D, wd, r, e1, ki, e2, e3, e4⟩ => ⟨true, by rw [e1]; exact ki.1, fun _ a ha => ⟨D, wd, ki, e1, ?_, e2, r, e3, e4⟩, fun hb => (nomatch hb)⟩, rfl, ht⟩
      match σ', h2 with
      | [x0, x1, x2, x3, x4], _ => exact ⟨x0, x2, x3, x4, rfl⟩
  refine wpAny_call (codeAny_mono rc fun z s2 q => ?_)
  cases z with
  | error e => exact (show False from q).elim
  | ok fl =>
    cases fl with
    | ret u => exact I1.after q
    | next => exact q.elim
    | brk => exact q.elim
    | cont => exact q.elim
/-- _law_outcome(lambda: body), the lambda made on the spot -/
theorem pe_outM {X : Cx} {fO CE e0 e1 e2 e3 e4 e5 e6 e7 e8 c Pt : Addr} {fdO : FuncData} {k : Nat} {T : List (Addr × Str)} {params : Arguments} {body : Expr} {scope : Scope} {tb : XK → TE} {p pos posL : Pos}
    (F : Fun X.K "_law_outcome" "_law_outcome" sOutcome fO fdO) (at_ : X.mg "_law_outcome" = some (.ref fO)) (kp : PySem.W.keepIn X.K (.ref fO) = true) (hb : Binds X.K fdO ["_law_call"] [])
    (hCE : X.mg "ChairError" = some (.ref CE)) (NG : Nine X.mg e0 e1 e2 e3 e4 e5 e6 e7 e8) (B : Bt X.mg) (hr : Room (k + 2) X.A) (hg : Gl X "_law_outcome")
    (TB : TabB X.base X.mg c Pt) (hcode : X.env.code = .ref c) (hm : (Pt, X.env.qual ++ "<lambda>") ∈ T) (hu : ∀ p ∈ T, p.1 = Pt → p.2 = X.env.qual ++ "<lambda>") (hdef : defaultsOf params X.env = ([], [])) (hkw : params.kwonlyargs = [])
    (L : LamN X.N X.env.scope scope) (hb0 : ∀ (q : Str) (cl : List (Str × Addr)) (pm cv ctv : Value), bindArgs (laFn q params body scope cl pm .none cv ctv) ⟨[], []⟩ = pure [])
    (hbody : ∀ (E : XK) (f : Addr) (A : Around) (outer : List Env) (s : Shared) (H : Hp) (c' : Addr), Room k (A.deeper (lamEnv X scope s.heap.objs.size f c')) → PE (lamCx X A outer s H E scope f c') body (tb E)) :
    PE X (.Call (.Name "_law_outcome" p) [.Lambda params body scope posL] [] pos) (fun σ H Q => Tabs T H ∧ ∀ f H1, H f = none → ExtN H H1 → Tabs T H1 → tb (OutA X.K CE e0 e1 e2 e3 e4 e5 e6 e7 e8 Q) σ H1 (outQ Q)) :=
  ⟨fun pins s σ H Q I h => (pe_outA F at_ kp hb hCE NG B hr hg (pe_lam0 TB hcode hm hu hdef hkw fun ok => L.has ok)).run pins s σ H Q I
    ⟨h.1, fun f H1 hn xt1 t1 la => ⟨f, rfl, params, body, scope, [], tb (OutA X.K CE e0 e1 e2 e3 e4 e5 e6 e7 e8 Q), la, L, .inl ⟨rfl, hb0⟩, fun _ => hb0, hbody _ f, h.2 f H1 hn xt1 t1⟩⟩⟩
end Cc

/-! Outcomes asked within a comprehension. -/
namespace Cc
open PySem PySem.Spec PyProof.Rows L2
open LamX
/-- _law_outcome(f), f a lambda of the def around the comprehension -/
theorem pe_outI {X : Cx} {pins : List (Addr × Obj)} {σ : L2.St} {H : Hp} {s : Shared} {sc : Scope} {ce : Env} {fp : List Addr} {fO CE e0 e1 e2 e3 e4 e5 e6 e7 e8 : Addr} {fdO : FuncData} {k iw : Nat} {wk : Str} {p pw pos : Pos}
    (I : Inv X pins σ H s) (hfp : ∀ b ∈ fp, FpOk X pins H b) (F : Fun X.K "_law_outcome" "_law_outcome" sOutcome fO fdO) (at_ : X.mg "_law_outcome" = some (.ref fO)) (kp : PySem.W.keepIn X.K (.ref fO) = true) (hb : Binds X.K fdO ["_law_call"] [])
    (hCE : X.mg "ChairError" = some (.ref CE)) (NG : Nine X.mg e0 e1 e2 e3 e4 e5 e6 e7 e8) (B : Bt X.mg) (hr : Room (k + 2) X.A) (hg : Gl (X.blk s H sc ce fp) "_law_outcome") (hw : X.N[iw]? = some wk) (hvw : Vis ce.scope wk) (hd : (wk == ("__debug__" : Str)) = false := by decide) (hcd : (wk == ("__classdict__" : Str)) = false := by decide)
    (he : starEach [Expr.Name wk pw] ce = (false, eval (.Name wk pw) ce) :: starEach [] ce := by rfl) (hpl : (backTo pos (starEach [] ce)).any (·.1) = false := by rfl) :
    PE (X.blk s H sc ce fp) (.Call (.Name "_law_outcome" p) [.Name wk pw] [] pos) (fun σB H' Q => ∃ f, σB[iw]? = some (some (.ref f)) ∧ CanAct X k σ f (OutA X.K CE e0 e1 e2 e3 e4 e5 e6 e7 e8 Q) H' (outQ Q)) := by
  refine ⟨fun pinsB s' σB H' Q IB ⟨f, hs, ht⟩ => ?_⟩
  refine wpAny_Call_Name_kw (ld_glob IB hg at_ ?_ (by decide))
  have ha : PA (X.blk s H sc ce fp) [Expr.Name wk pw] (tCons (tVar iw) tNil) := pa_cons (pe_var hw hvw hd hcd) pa_nil
  refine PySem.W.callWith_K (h₀ := X.base) IB.ok.mod.kin kp (thn (ha.run pos pinsB s' σB H' (fun vs H1 => vs = [.ref f] ∧ H1 = H') IB ⟨_, hs, rfl, rfl⟩) fun us z1 ⟨vs, H1, I1, r, ev, eH⟩ => ⟨I1.kIn, ?_⟩) he hpl
  subst ev
  subst eH
  have IX : Inv X pins σ H1 z1 := I.call' (ch := fp) I1.os I1.base I1.hok I1.bare fun b hb => ⟨(hfp b hb).2.2.2.1, (hfp b hb).2.1, (hfp b hb).2.2.2.2.1, (hfp b hb).2.2.2.2.2⟩
  obtain ⟨oc, od, kV, doc, pm, an, cdv, ct, osl, rfl, lk, hcdO⟩ := F.ex
  have rc : codeAny (model X.prog X.w) X.A (.call (.ref fO) ⟨us, []⟩) (CR CX0 X.stack X.prog X.w H1 z1 Q E0) z1 := by
    have bt := hb z1 us I1.kIn (by rw [List.append_nil, ← r.length]; rfl)
    rw [List.append_nil] at bt
    refine run_ofS (CX := CX0) (N := oN) (ps := ["_law_call"]) lk hcdO scOutcome hr IX.env0 bt r rfl fun hr' => ?_
    have hgl : Gl (cxOf CX0 X.prog X.w X.K X.mg X.base oN "_law_outcome" (defScope sOutcome) fO cdv X.A X.stack z1 H1 E0).nox "ChairError" := rfl
    suffices h : ∃ t, PSs (cxOf CX0 X.prog X.w X.K X.mg X.base oN "_law_outcome" (defScope sOutcome) fO cdv X.A X.stack z1 H1 E0).nox (defBody sOutcome) t ∧ t { nx := fun _ H' => Q .non H', rt := Q } (L2.start oN [.ref f]) H1 from let ⟨t, h1, h2⟩ := h; ⟨t, h1.nox, h2⟩
    refine ⟨_, pss_one (ps_try_as (i := 1) (X := (cxOf CX0 X.prog X.w X.K X.mg X.base oN "_law_outcome" (defScope sOutcome) fO cdv X.A X.stack z1 H1 E0).nox) (c := .ref CE)
      (tb := fun W D σ' H' => ∃ Ech : XK, (∀ cls d σ' H', σ'.length = 5 → Ech cls d H' → W cls d σ' H') ∧ σ'[0]? = some (some (.ref f)) ∧ CanAct X k σ f Ech H' (outQ D.rt))
      (ts := fun a cls d => hRdX X.K CE e0 e1 e2 e3 e4 e5 e6 e7 e8 a cls d)
      rfl rfl scOutcome.nd rfl rfl ⟨hgl, by decide, .inl hCE⟩ L2.takes0 (fun W pn xe tk _ => ?_) (fun a oe cls d pn hz hf => ⟨fun pz z σz Hz De Iz ⟨D, wd, ⟨_, b0, b1, b2, b3, b4, b5, b6, b7, b8, j, KA, FL⟩, h⟩ => (hand_any NG KA FL B hr' hz hf).run pz z σz Hz De Iz h⟩)), ?_⟩
    · refine ⟨fun pz z σz Hz D Iz ⟨Ech, hW, h1, h2⟩ => ?_⟩
      exact (pss_one (ps_ret (pe_tup (pa_cons pe_str (pa_cons (pe_can (CXg := CX0) (Eg := E0) (Ng := oN) (i := 0) (E := Ech) IX (takes_len tk) (fun cls d σ' H' e hl => hW cls d σ' H' hl e) hr' rfl (.inl rfl)) pa_nil))))).run pz z σz Hz D Iz ⟨h1, h2⟩
    · refine ⟨OutA X.K CE e0 e1 e2 e3 e4 e5 e6 e7 e8 Q, fun cls d σ' H' h2 ⟨D, wd, r, e1, ki, e2, e3, e4⟩ => ⟨true, by rw [e1]; exact ki.1, fun _ a ha => ⟨D, wd, ki, e1, ?_, e2, r, e3, e4⟩, fun hb => (nomatch hb)⟩, rfl, ht⟩
      match σ', h2 with
      | [x0, x1, x2, x3, x4], _ => exact ⟨x0, x2, x3, x4, rfl⟩
  refine wpAny_call (codeAny_mono rc fun z s2 q => ?_)
  cases z with
  | error e => exact (show False from q).elim
  | ok fl =>
    cases fl with
    | ret u => exact I1.after q
    | next => exact q.elim
    | brk => exact q.elim
    | cont => exact q.elim
end Cc

/-! The law of texts: its lists. -/
namespace Cc
open PySem PySem.Spec PyProof.Rows L2 TL
abbrev rJoinK (K : PySem.W.Frag) : V → List V → Hp → VK → Prop := fun x xs H Q => ∃ a p, ∃ ys : List Str, x = .str a ∧ xs = [.ref p] ∧ (SqL K H p (ys.map V.str) ∨ SqT K H p (ys.map V.str)) ∧ (ys.map (·.length)).sum + ys.length * a.length ≤ 16777216 ∧ Q (.str (Txt.join a ys)) H
/-- a booking as drawn: its tuple, its words, its steps; away from what changes -/
def Drawn (K : PySem.W.Frag) (h l S : Addr) (H : Hp) (v : V) (k : BkD) : Prop := ∃ p a b us, v = .ref p ∧ H p = some (.tup [.ref a, .ref b]) ∧ H a = some (.lst ((bWords k).map V.str)) ∧ H b = some (.lst us) ∧ StepsV K H us (bSteps k) ∧ okB k ∧ a ≠ h ∧ a ≠ l ∧ b ≠ h ∧ b ≠ l ∧ a ≠ S ∧ b ≠ S
section
variable {K : PySem.W.Frag} {h l S : Addr} {H H1 : Hp} {v : V} {k : BkD}
theorem Drawn.same (d : Drawn K h l S H v k) (s : Same H H1) : Drawn K h l S H1 v k :=
  let ⟨p, a, b, us, e, e1, e2, e3, e4, r⟩ := d
  ⟨p, a, b, us, e, s _ _ e1, s _ _ e2, s _ _ e3, e4.same s, r⟩
theorem Drawn.but2 (d : Drawn K h l S H v k) (c : But2 h l H H1) (N : NextAt H h l) : Drawn K h l S H1 v k :=
  let ⟨p, a, b, us, e, e1, e2, e3, e4, ok, n1, n2, n3, n4, r⟩ := d
  ⟨p, a, b, us, e, c.tup N _ _ e1, c _ _ n1 n2 e2, c _ _ n3 n4 e3, e4.mono (c.tup N), ok, n1, n2, n3, n4, r⟩
theorem Drawn.lst {xs ys : List V} (d : Drawn K h l S H v k) (hS : H S = some (.lst xs)) : Drawn K h l S (upd H S (.lst ys)) v k :=
  let ⟨p, a, b, us, e, e1, e2, e3, e4, ok, n1, n2, n3, n4, n5, n6⟩ := d
  ⟨p, a, b, us, e, (upd_ne (ne_of e1 hS fun z => nomatch z)).trans e1, (upd_ne n5).trans e2, (upd_ne n6).trans e3, e4.mono fun t xs q => (upd_ne (ne_of q hS fun z => nomatch z)).trans q, ok, n1, n2, n3, n4, n5, n6⟩
end
theorem ok_drawn {K : PySem.W.Frag} {h l S : Addr} {H : Hp} : ∀ {vs : List V} {ks : List BkD}, Paired (Drawn K h l S H) vs ks → ∀ k ∈ ks, okB k
  | _, _, .cons d r, k, hk => by
    rcases List.mem_cons.mp hk with z | z
    · obtain ⟨_, _, _, _, _, _, _, _, _, ok, _⟩ := d
      rw [z]
      exact ok
    · exact ok_drawn r k z
/-- a list of rows of steps -/
def RowL (K : PySem.W.Frag) (H : Hp) (v : V) (ss : List Stp) : Prop := ∃ b us, v = .ref b ∧ H b = some (.lst us) ∧ StepsV K H us ss
theorem RowL.same {K : PySem.W.Frag} {H H1 : Hp} {v : V} {ss : List Stp} (r : RowL K H v ss) (s : Same H H1) : RowL K H1 v ss := let ⟨b, us, e, e1, e2⟩ := r; ⟨b, us, e, s _ _ e1, e2.same s⟩
/-- a comprehension, whatever it walks -/
abbrev g2 (K : PySem.W.Frag) : TG := gTup K 2 (gCons (gName 12) (gCons (gName 13) gNil))
theorem wipe2 {σ : L2.St} {u v : V} (hσ : σ.length = 16) : wipe (((wipe σ [12, 13]).set 12 (some u)).set 13 (some v)) [12, 13] = wipe σ [12, 13] := by
  show ((((((σ.set 13 none).set 12 none).set 12 (some u)).set 13 (some v)).set 13 none).set 12 none) = (σ.set 13 none).set 12 none
  apply List.ext_getElem?
  intro i
  by_cases h12 : i = 12
  · subst h12
    rw [List.getElem?_set_self, List.getElem?_set_self]
    all_goals try simp only [List.length_set]
    all_goals omega
  · by_cases h13 : i = 13
    · subst h13
      rw [List.getElem?_set_ne (by decide), List.getElem?_set_self, List.getElem?_set_ne (by decide), List.getElem?_set_self]
      all_goals try simp only [List.length_set]
      all_goals omega
    · rw [List.getElem?_set_ne (Ne.symm h12), List.getElem?_set_ne (Ne.symm h13), List.getElem?_set_ne (Ne.symm h13), List.getElem?_set_ne (Ne.symm h12), List.getElem?_set_ne (Ne.symm h12), List.getElem?_set_ne (Ne.symm h13)]
/-- the lines of what was drawn -/
theorem line_lc {K : PySem.W.Frag} {h l S : Addr} {vs : List V} {ks : List BkD} {σ : L2.St} {H1 : Hp} {R : Addr → Hp → Prop} (eS : H1 S = some (.lst vs)) (pr : Paired (Drawn K h l S H1) vs ks) (hl : ks.length ≤ 10) (hσ : σ.length = 16)
    (k : ∀ D2 H', Same H1 H' → H1 D2 = none → H' D2 = some (.lst ((ks.map lineB).map V.str)) → R D2 H') : LcJ (Itl K S) (g2 K) tYes (tM1 (rJoinK K) (tC (.str " ")) (tVar 12)) [12, 13] σ H1 R := by
  intro D2 hD
  have sz := sizeLine_eq
  have ll := Paired.length pr
  have s0 := same_upd (o := .lst []) hD
  have hh := lc_list (K := K) (a := S) (xs := vs) (g := g2 K) (tt := tYes) (te := (tM1 (rJoinK K) (tC (V.str " ")) (tVar 12))) (vs := [12, 13]) (σ := σ) (H1 := H1) (D := D2)
    (Qd := fun H' => Same H1 H' ∧ H' D2 = some (.lst ((ks.map lineB).map V.str))) (fun i H' => Same H1 H' ∧ H' D2 = some (.lst (((ks.take i).map lineB).map V.str))) ⟨s0, upd_same⟩ (fun i H' _ ⟨s, _⟩ => SqL.of (s _ _ eS)) (fun i x H' hx ⟨s, e⟩ => ?_) (fun H' ⟨s, e⟩ => ⟨s, ?_⟩)
  · obtain ⟨W, ⟨w0, h0⟩, hW⟩ := hh
    refine ⟨W, ⟨w0, h0⟩, fun i m H' w => ?_⟩
    rcases hW i m H' w with ⟨st, s2, e2⟩ | rr
    · exact .inl ⟨st, k D2 H' s2 hD e2⟩
    · exact .inr rr
  · obtain ⟨kk, hk, d⟩ := paired_get pr hx
    obtain ⟨p, a, b, us, rfl, e1, e2, e3, e4, ok, _⟩ := d.same s
    have tk := tot_bk ok
    have l12 : ∀ v w : V, (((wipe σ [12, 13]).set 12 (some v)).set 13 (some w))[12]? = some (some v) := fun v w => by
      rw [List.getElem?_set_ne (by decide), List.getElem?_set_self (by rw [wipe_length]; omega)]
    refine ⟨p, _, rfl, SqT.of e1, rfl, _, _, rfl, _, _, rfl, rfl, wipe2 hσ, ⟨_, rfl⟩, _, l12 _ _, _, a, bWords kk, rfl, rfl, .inl (SqL.of e2), join_sum (by decide +kernel) (by omega), _, e, ?_, fun z o ez => (upd_ne (ne_of_none ez hD)).trans (s _ _ ez), ?_⟩
    · rw [List.length_map, List.length_map, List.length_take]
      omega
    · rw [upd_same, List.take_add_one, hk, List.map_append, List.map_append]
      rfl
  · rw [ll, List.take_length] at e
    exact e
/-- the steps of what was drawn -/
theorem stps_lc {K : PySem.W.Frag} {h l S : Addr} {vs : List V} {ks : List BkD} {σ : L2.St} {H1 : Hp} {R : Addr → Hp → Prop} (eS : H1 S = some (.lst vs)) (pr : Paired (Drawn K h l S H1) vs ks) (hl : ks.length ≤ 10) (hσ : σ.length = 16)
    (k : ∀ D2 H' ws, Same H1 H' → H1 D2 = none → H' D2 = some (.lst ws) → Paired (RowL K H') ws (ks.map bSteps) → R D2 H') : LcJ (Itl K S) (g2 K) tYes (tVar 13) [12, 13] σ H1 R := by
  intro D2 hD
  have sz := sizeLine_eq
  have ll := Paired.length pr
  have s0 := same_upd (o := .lst []) hD
  have hh := lc_list (K := K) (a := S) (xs := vs) (g := g2 K) (tt := tYes) (te := (tVar 13)) (vs := [12, 13]) (σ := σ) (H1 := H1) (D := D2)
    (Qd := fun H' => Same H1 H' ∧ ∃ ws, H' D2 = some (.lst ws) ∧ Paired (RowL K H') ws (ks.map bSteps)) (fun i H' => Same H1 H' ∧ ∃ ws, H' D2 = some (.lst ws) ∧ Paired (RowL K H1) ws ((ks.take i).map bSteps)) ⟨s0, [], upd_same, .nil⟩ (fun i H' _ ⟨s, _⟩ => SqL.of (s _ _ eS)) (fun i x H' hx ⟨s, ws, e, pw⟩ => ?_) (fun H' ⟨s, ws, e, pw⟩ => ⟨s, ws, e, ?_⟩)
  · obtain ⟨W, ⟨w0, h0⟩, hW⟩ := hh
    refine ⟨W, ⟨w0, h0⟩, fun i m H' w => ?_⟩
    rcases hW i m H' w with ⟨st, s2, ws, e2, pw⟩ | rr
    · exact .inl ⟨st, k D2 H' ws s2 hD e2 pw⟩
    · exact .inr rr
  · obtain ⟨kk, hk, p, a, b, us, rfl, e1, e2, e3, e4, ok, _⟩ := paired_get pr hx
    have l13 : ∀ v w : V, (((wipe σ [12, 13]).set 12 (some v)).set 13 (some w))[13]? = some (some w) := fun v w => by
      rw [List.getElem?_set_self (by rw [List.length_set, wipe_length]; omega)]
    have lw := Paired.length pw
    rw [List.length_map, List.length_take] at lw
    refine ⟨p, _, rfl, SqT.of (s _ _ e1), rfl, _, _, rfl, _, _, rfl, rfl, wipe2 hσ, _, l13 _ _, _, e, by omega, fun z o ez => (upd_ne (ne_of_none ez hD)).trans (s _ _ ez), _, upd_same, ?_⟩
    rw [List.take_add_one, hk, List.map_append]
    exact paired_snoc pw ⟨b, us, rfl, e3, e4⟩
  · rw [ll, List.take_length] at pw
    exact Paired.mapP pw fun _ _ z => z.same s
theorem readB_len {ws : List Str} {ss : List Stp} (h : readB ws = some ss) : ss.length ≤ 60 := by
  have hm : ∀ {w o}, meetR w o = some ss → ss.length ≤ 60 := fun z => by
    obtain ⟨b, n, _, _, _, rfl⟩ := meetR_some z
    show 1 ≤ 60
    decide
  have hs : ∀ {w a b c}, serR w a b c = some ss → ss.length ≤ 60 := fun z => by
    obtain ⟨b, n, tm, mo, _, _, _, _, q, rfl⟩ := serR_some z
    unfold okSer at q
    rw [Bool.and_eq_true, Bool.and_eq_true] at q
    have := of_decide_eq_true q.1.2
    unfold serS
    rw [List.length_map]; rw [List.length_range]; omega
  cases ws with
  | nil => exact nomatch h
  | cons w r =>
    rw [readB_cons] at h
    by_cases c1 : w = "turn" ∧ r = []
    · rw [if_pos c1] at h
      cases h
      decide
    · rw [if_neg c1] at h
      by_cases c2 : w = "alternate"
      · rw [if_pos c2] at h
        unfold altR at h
        split at h
        · rename_i q
          cases h
          unfold okAltO at q
          rw [Bool.and_eq_true] at q
          have := of_decide_eq_true q.1
          rw [List.length_map] at this
          unfold altS altN
          rw [List.length_map, List.length_range, allN_map, List.length_map, List.length_map]
          omega
        · exact nomatch h
      · rw [if_neg c2] at h
        match r, h with
        | [], h => exact nomatch h
        | [n], h => exact hm h
        | [_, _], h => exact nomatch h
        | [n, t, k], h =>
          replace h : (if t = "times" then serR w (numW n) (numW k) (some 0) else none) = some ss := h
          split at h
          · exact hs h
          · exact nomatch h
        | [_, _, _, _], h => exact nomatch h
        | [n, t, k, m, q], h =>
          replace h : (if t = "times" ∧ m = "more" ∧ q ≠ "0" then serR w (numW n) (numW k) (numW q) else none) = some ss := h
          split at h
          · exact hs h
          · exact nomatch h
        | _ :: _ :: _ :: _ :: _ :: _ :: _, h => exact nomatch h
/-- what bookings plan -/
theorem plan_lc {K : PySem.W.Frag} {D : Kds} {q : Addr} {xs : List V} {rows : List (List Str)} {σ : L2.St} {H0 H1 : Hp} {R : Addr → Hp → Prop} (eq : H1 q = some (.lst xs)) (pr : Paired (BookV K D H0 H1) xs rows) (hl : rows.length ≤ 1000) (hσ : σ.length = 16)
    (k : ∀ D2 H' ws, Same H1 H' → H1 D2 = none → H' D2 = some (.lst ws) → Paired (fun v r => ∃ ss, readB r = some ss ∧ RowL K H' v ss) ws rows → R D2 H') : LcJ (Itl K q) (gName 14) tYes (tPlan4 K D 14) [14] σ H1 R := by
  intro D2 hD
  have sz := sizeLine_eq
  have ll := Paired.length pr
  have s0 := same_upd (o := .lst []) hD
  have hh := lc_list (K := K) (a := q) (xs := xs) (g := gName 14) (tt := tYes) (te := tPlan4 K D 14) (vs := [14]) (σ := σ) (H1 := H1) (D := D2)
    (Qd := fun H' => Same H1 H' ∧ ∃ ws, H' D2 = some (.lst ws) ∧ Paired (fun v r => ∃ ss, readB r = some ss ∧ RowL K H' v ss) ws rows)
    (fun i H' => Same H1 H' ∧ ∃ ws, H' D2 = some (.lst ws) ∧ Paired (fun v r => ∃ ss, readB r = some ss ∧ ∃ b us, v = .ref b ∧ b ≠ D2 ∧ H' b = some (.lst us) ∧ StepsV K H' us ss) ws (rows.take i)) ⟨s0, [], upd_same, .nil⟩ (fun i H' _ ⟨s, _⟩ => SqL.of (s _ _ eq)) (fun i x H' hx ⟨s, ws, e, pw⟩ => ?_)
    (fun H' ⟨s, ws, e, pw⟩ => ⟨s, ws, e, ?_⟩)
  · obtain ⟨W, ⟨w0, h0⟩, hW⟩ := hh
    refine ⟨W, ⟨w0, h0⟩, fun i m H' w => ?_⟩
    rcases hW i m H' w with ⟨st, s2, ws, e2, pw⟩ | rr
    · exact .inl ⟨st, k D2 H' ws s2 hD e2 pw⟩
    · exact .inr rr
  · obtain ⟨rw_, hr, a, ss, rfl, hs, bk⟩ := paired_get pr hx
    have l14 : ∀ v : V, ((wipe σ [14]).set 14 (some v))[14]? = some (some v) := fun v => set_eq (σ := σ) (by rw [hσ]; decide)
    have lw := Paired.length pw
    rw [List.length_take] at lw
    have ls := readB_len hs
    -- the steps are those of the heap ahead
    have bk1 : BookOf K D H' a rw_ ss := (bk.old).same s
    refine ⟨by
      show ((σ.set 14 none).set 14 _).set 14 none = σ.set 14 none
      rw [List.set_set, List.set_set], a, rw_, ss, l14 _, bk1, by omega, fun us su p hp => ?_⟩
    have hp2 : p ≠ D2 := fun z => by rw [z, e] at hp; exact nomatch hp
    have eD : upd H' p (.lst us) D2 = some (.lst ws) := (upd_ne hp2.symm).trans e
    have mono : ∀ {vs : List V} {ss : List Stp} {ys : List V}, StepsV K H' vs ss → StepsV K (upd (upd H' p (.lst us)) D2 (.lst ys)) vs ss := fun z => z.mono fun t xs q => (upd_ne (ne_of q e fun z => nomatch z)).trans ((upd_ne (ne_of_none q hp)).trans q)
    refine ⟨ws, eD, by omega, fun z o ez => (upd_ne (ne_of_none ez hD)).trans ((upd_ne (ne_of_none (s _ _ ez) hp)).trans (s _ _ ez)), _, upd_same, ?_⟩
    rw [List.take_add_one, hr]
    refine paired_snoc (Paired.mapP pw fun v r ⟨ss, h1, b, us, h2, hb, h3, h4⟩ => ⟨ss, h1, b, us, h2, hb, ?_, mono h4⟩) ⟨ss, hs, p, us, rfl, hp2, (upd_ne hp2).trans upd_same, mono su⟩
    exact (upd_ne hb).trans ((upd_ne (ne_of_none h3 hp)).trans h3)
  · rw [ll, List.take_length] at pw
    exact Paired.mapP pw fun v r ⟨ss, h1, b, us, h2, _, h3, h4⟩ => ⟨ss, h1, b, us, h2, h3, h4⟩
end Cc

/-! The law of texts: more of its lists. -/
namespace Cc
open PySem PySem.Spec PyProof.Rows L2 TL
/-- a row as the law reads it, in a heap -/
def RowO (K : PySem.W.Frag) (H : Hp) (v : V) : Option (List Stp) → Prop
  | none => v = .non
  | some ss => RowL K H v ss
theorem RowO.same {K : PySem.W.Frag} {H H1 : Hp} {v : V} : ∀ {o : Option (List Stp)}, RowO K H v o → Same H H1 → RowO K H1 v o
  | none, r, _ => r
  | some _, r, s => RowL.same r s
def RowN (K : PySem.W.Frag) (D : Addr) (H : Hp) (v : V) : Option (List Stp) → Prop
  | none => v = .non
  | some ss => ∃ b us, v = .ref b ∧ b ≠ D ∧ H b = some (.lst us) ∧ StepsV K H us ss
theorem RowN.row {K : PySem.W.Frag} {D : Addr} {H : Hp} {v : V} : ∀ {o : Option (List Stp)}, RowN K D H v o → RowO K H v o
  | none, r => r
  | some _, ⟨b, us, e, _, e1, e2⟩ => ⟨b, us, e, e1, e2⟩
theorem RowN.same {K : PySem.W.Frag} {D : Addr} {H H1 : Hp} {v : V} : ∀ {o : Option (List Stp)}, RowN K D H v o → Same H H1 → RowN K D H1 v o
  | none, r, _ => r
  | some _, ⟨b, us, e, n, e1, e2⟩, s => ⟨b, us, e, n, s _ _ e1, e2.same s⟩
theorem RowN.lst {K : PySem.W.Frag} {D : Addr} {H : Hp} {v : V} {xs ys : List V} (hD : H D = some (.lst xs)) : ∀ {o : Option (List Stp)}, RowN K D H v o → RowN K D (upd H D (.lst ys)) v o
  | none, r => r
  | some _, ⟨b, us, e, n, e1, e2⟩ => ⟨b, us, e, n, (upd_ne n).trans e1, e2.mono fun t xs q => (upd_ne (ne_of q hD fun z => nomatch z)).trans q⟩
/-- the rows of lines, as the law reads them -/
theorem rows_lc {K : PySem.W.Frag} {q : Addr} {lns : List Str} {σ : L2.St} {H1 : Hp} {R : Addr → Hp → Prop} (eq : H1 q = some (.lst (lns.map V.str))) (ok : ∀ x ∈ lns, LineB x ∧ x.length ≤ 900) (hl : lns.length ≤ 1000) (hσ : σ.length = 16)
    (k : ∀ D2 H' ws, Same H1 H' → H1 D2 = none → H' D2 = some (.lst ws) → Paired (RowO K H') ws (lns.map fun x => readB (wordsB x)) → R D2 H') : LcJ (Itl K q) (gName 15) tYes (fun σ H Q => tCons (tM1 rSplit (tVar 15) (tC (.str " "))) tNil σ H fun vs H1 => spLRead K vs H1 Q E0) [15] σ H1 R := by
  intro D2 hD
  have sz := sizeLine_eq
  have s0 := same_upd (o := .lst []) hD
  have hh := lc_list (K := K) (a := q) (xs := lns.map V.str) (g := gName 15) (tt := tYes) (te := (fun σ H Q => tCons (tM1 rSplit (tVar 15) (tC (.str " "))) tNil σ H fun vs H1 => spLRead K vs H1 Q E0)) (vs := [15]) (σ := σ) (H1 := H1) (D := D2)
    (Qd := fun H' => Same H1 H' ∧ ∃ ws, H' D2 = some (.lst ws) ∧ Paired (RowO K H') ws (lns.map fun x => readB (wordsB x)))
    (fun i H' => Same H1 H' ∧ ∃ ws, H' D2 = some (.lst ws) ∧ Paired (RowN K D2 H') ws ((lns.take i).map fun x => readB (wordsB x))) ⟨s0, [], upd_same, .nil⟩ (fun i H' _ ⟨s, _⟩ => SqL.of (s _ _ eq)) (fun i x H' hx ⟨s, ws, e, pw⟩ => ?_)
    (fun H' ⟨s, ws, e, pw⟩ => ⟨s, ws, e, ?_⟩)
  · obtain ⟨W, ⟨w0, h0⟩, hW⟩ := hh
    refine ⟨W, ⟨w0, h0⟩, fun i m H' w => ?_⟩
    rcases hW i m H' w with ⟨st, s2, ws, e2, pw⟩ | rr
    · exact .inl ⟨st, k D2 H' ws s2 hD e2 pw⟩
    · exact .inr rr
  · rw [List.getElem?_map] at hx
    obtain ⟨ln, hln, rfl⟩ := Option.map_eq_some_iff.mp hx
    obtain ⟨lb, ll⟩ := ok ln (List.mem_of_getElem? hln)
    have l15 : ∀ v : V, ((wipe σ [15]).set 15 (some v))[15]? = some (some v) := fun v => set_eq (σ := σ) (by rw [hσ]; decide)
    have lw := Paired.length pw
    rw [List.length_map, List.length_take] at lw
    obtain ⟨wt, wne⟩ := words_tot ln
    have wz := tot_len (wordsB ln)
    refine ⟨by
      show ((σ.set 15 none).set 15 _).set 15 none = σ.set 15 none
      rw [List.set_set, List.set_set], _, l15 _, ⟨ln, rfl⟩, ln, _, rfl, rfl, by decide +kernel, by omega, fun m hm => ?_⟩
    have sm := same_upd (o := .lst ((wordsB ln).map V.str)) hm
    have em := upd_same (H := H') (a := m) (o := .lst ((wordsB ln).map V.str))
    generalize upd H' m (.lst ((wordsB ln).map V.str)) = H2 at *
    have e2 := sm _ _ e
    have add : ∀ v o H3, Same H2 H3 → o = readB (wordsB ln) → RowN K D2 (upd H3 D2 (.lst (ws ++ [v]))) v o → Paired (RowN K D2 (upd H3 D2 (.lst (ws ++ [v])))) (ws ++ [v]) ((lns.take (i + 1)).map fun x => readB (wordsB x)) := fun v o H3 s3 eo r => by
      rw [List.take_add_one, hln, List.map_append]
      refine paired_snoc (Paired.mapP pw fun _ _ z => (z.same (sm.trans s3)).lst ((sm.trans s3) _ _ e)) ?_
      subst eo
      exact r
    have old : ∀ v H3, Same H2 H3 → Same H1 (upd H3 D2 (.lst (ws ++ [v]))) := fun v H3 s3 z o ez => (upd_ne (ne_of_none ez hD)).trans (s3 _ _ (sm _ _ (s _ _ ez)))
    refine ⟨m, wordsB ln, rfl, em, wne, by omega, fun w hw => ⟨words_ok lb.2.1 w hw, lb.2.2 w hw⟩, fun hn H3 s3 => ?_, fun ss hs p us H3 s3 hp ep su => ?_⟩
    · exact ⟨ws, s3 _ _ e2, by omega, old _ _ s3, _, upd_same, add _ none H3 s3 hn.symm rfl⟩
    · have np : p ≠ D2 := fun z => by rw [z, e2] at hp; exact nomatch hp
      refine ⟨ws, s3 _ _ e2, by omega, old _ _ s3, _, upd_same, add _ (some ss) H3 s3 hs.symm ?_⟩
      exact RowN.lst (s3 _ _ e2) (o := some ss) ⟨p, us, rfl, np, ep, su⟩
  · rw [List.length_map, List.take_length] at pw
    exact Paired.mapP pw fun _ _ z => z.row
/-- the lines that bookings have -/
theorem lines2_lc {K : PySem.W.Frag} {D : Kds} {q : Addr} {xs : List V} {rows : List (List Str)} {σ : L2.St} {H0 H1 : Hp} {R : Addr → Hp → Prop} (eq : H1 q = some (.lst xs)) (pr : Paired (BookV K D H0 H1) xs rows) (hl : rows.length ≤ 1000) (ht : ∀ r ∈ rows, tot r ≤ 1000) (hσ : σ.length = 16)
    (k : ∀ D2 H', Same H1 H' → H1 D2 = none → H' D2 = some (.lst ((rows.map (Txt.join " ")).map V.str)) → R D2 H') : LcJ (Itl K q) (gName 14) tYes (tLine4 K D 14) [14] σ H1 R := by
  intro D2 hD
  have sz := sizeLine_eq
  have ll := Paired.length pr
  have s0 := same_upd (o := .lst []) hD
  have hh := lc_list (K := K) (a := q) (xs := xs) (g := gName 14) (tt := tYes) (te := tLine4 K D 14) (vs := [14]) (σ := σ) (H1 := H1) (D := D2)
    (Qd := fun H' => Same H1 H' ∧ H' D2 = some (.lst ((rows.map (Txt.join " ")).map V.str)))
    (fun i H' => Same H1 H' ∧ H' D2 = some (.lst (((rows.take i).map (Txt.join " ")).map V.str))) ⟨s0, upd_same⟩ (fun i H' _ ⟨s, _⟩ => SqL.of (s _ _ eq)) (fun i x H' hx ⟨s, e⟩ => ?_)
    (fun H' ⟨s, e⟩ => ⟨s, ?_⟩)
  · obtain ⟨W, ⟨w0, h0⟩, hW⟩ := hh
    refine ⟨W, ⟨w0, h0⟩, fun i m H' w => ?_⟩
    rcases hW i m H' w with ⟨st, s2, e2⟩ | rr
    · exact .inl ⟨st, k D2 H' s2 hD e2⟩
    · exact .inr rr
  · obtain ⟨rw_, hr, a, ss, rfl, hs, bk⟩ := paired_get pr hx
    have l14 : ∀ v : V, ((wipe σ [14]).set 14 (some v))[14]? = some (some v) := fun v => set_eq (σ := σ) (by rw [hσ]; decide)
    have bk1 : BookOf K D H' a rw_ ss := (bk.old).same s
    have := ht rw_ (List.mem_of_getElem? hr)
    refine ⟨by
      show ((σ.set 14 none).set 14 _).set 14 none = σ.set 14 none
      rw [List.set_set, List.set_set], a, rw_, ss, l14 _, bk1, by omega, _, e, by rw [List.length_map, List.length_map, List.length_take]; omega, fun z o ez => (upd_ne (ne_of_none ez hD)).trans (s _ _ ez), ?_⟩
    rw [upd_same, List.take_add_one, hr]
    simp
  · rw [ll, List.take_length] at e
    exact e
/-- the bookings drawn -/
theorem draw_lc {K : PySem.W.Frag} {h l : Addr} {n : Nat} {σ : L2.St} {H1 : Hp} {R : Addr → Hp → Prop} (N1 : NextAt H1 h l) (h1 : σ[1]? = some (some (.ref h))) (hn : n ≤ 10) (hσ : σ.length = 16)
    (k : ∀ D2 H' vs ks, NextAt H' h l → But2 h l H1 H' → H1 D2 = none → H' D2 = some (.lst vs) → Paired (Drawn K h l D2 H') vs ks → ks.length = n → R D2 H') :
    LcJ (Itr 0 n) (gName 11) tYes (fun σ H Q => tCons (tVar 1) tNil σ H fun vs H1 => spDraw K vs H1 Q E0) [11] σ H1 R := by
  intro D2 hD
  have sz := sizeLine_eq
  have sD := same_upd (o := .lst []) hD
  have hh := lc_range (lo := 0) (n := n) (g := gName 11) (tt := tYes) (te := (fun σ H Q => tCons (tVar 1) tNil σ H fun vs H1 => spDraw K vs H1 Q E0)) (vs := [11])
    (σ := σ) (H1 := H1) (D := D2) (Qd := fun H3 => NextAt H3 h l ∧ But2 h l H1 H3 ∧ ∃ vs ks, H3 D2 = some (.lst vs) ∧ Paired (Drawn K h l D2 H3) vs ks ∧ ks.length = n)
    (fun i H3 => NextAt H3 h l ∧ But2 h l H1 H3 ∧ ∃ vs ks, H3 D2 = some (.lst vs) ∧ Paired (Drawn K h l D2 H3) vs ks ∧ ks.length = i) ⟨N1.same sD, fun _ _ _ _ e => sD _ _ e, [], [], upd_same, .nil, rfl⟩ (fun i H3 hi ⟨N3, b3, vs, ks, e, pr, lk⟩ => ?_) (fun H3 z => z)
  · obtain ⟨W, ⟨w0, h0⟩, hW⟩ := hh
    refine ⟨W, ⟨w0, h0⟩, fun i m H' w => ?_⟩
    rcases hW i m H' w with ⟨st, N3, b3, vs, ks, e, pr, lk⟩ | rr
    · exact .inl ⟨st, k D2 H' vs ks N3 b3 hD e pr lk⟩
    · exact .inr rr
  · have h1' : ∀ v : V, ((wipe σ [11]).set 11 (some v))[1]? = some (some (.ref h)) := fun v => (set_at (by decide)).trans h1
    have ll := Paired.length pr
    refine ⟨by
      show ((σ.set 11 none).set 11 _).set 11 none = σ.set 11 none
      rw [List.set_set, List.set_set], _, h1' _, h, l, rfl, N3, fun kk p a b us H4 ok N4 b4 ep ea eb su hp ha hb hab => ?_⟩
    have nh : D2 ≠ h := N1.notH hD
    have nl : D2 ≠ l := N1.notL hD
    have e4 := b4 _ _ nh nl e
    have nd : ∀ x, H3 x = none → x ≠ D2 := fun x hx z => by rw [z, e] at hx; exact nomatch hx
    refine ⟨vs, e4, by omega, (let ⟨m, k, ns, c1, c2, c3, c4⟩ := N4; ⟨m, k, ns, (upd_ne nh.symm).trans c1, (upd_ne nl.symm).trans c2, c3, c4⟩), fun y o n1 n2 ey => (upd_ne (ne_of_none ey hD)).trans (b4 _ _ n1 n2 (b3 _ _ n1 n2 ey)), _, ks ++ [kk], upd_same, ?_, by rw [List.length_append, lk]; rfl⟩
    exact paired_snoc (Paired.mapP pr fun _ _ z => (z.but2 b4 N3).lst e4) (Drawn.lst (S := D2) ⟨p, a, b, us, rfl, ep, ea, eb, su, ok, N3.notH ha, N3.notL ha, N3.notH hb, N3.notL hb, nd _ ha, nd _ hb⟩ e4)
theorem stpD_dpV {K : PySem.W.Frag} {H : Hp} {vs : List V} {ss : List Stp} (g : StepsV K H vs ss) : DpAll K H vs (ss.map stpD) := by
  induction g with
  | nil => exact .nil
  | @cons v s vs ss h r ih =>
    obtain ⟨t, e, f⟩ := h
    subst e
    have q := f H fun _ _ z => z
    refine .cons ?_ ih
    cases s with
    | turn => exact .tup q (.cons (.str _) .nil)
    | meet b n => exact .tup q (.cons (.str _) (.cons (.int _) .nil))
/-- rows as data -/
def rowD : Option (List Stp) → PyData
  | none => .none
  | some ss => .list (ss.map stpD)
theorem rowD_dp {K : PySem.W.Frag} {H : Hp} {v : V} : ∀ {o : Option (List Stp)}, RowO K H v o → Dp K H v (rowD o)
  | none, r => by
    have e : v = .non := r
    rw [e]
    exact .non
  | some ss, ⟨b, us, e, e1, e2⟩ => by
    rw [e]
    exact .lst (SqL.of e1) (stpD_dpV e2)
theorem rows_dp {K : PySem.W.Frag} {H : Hp} : ∀ {vs : List V} {os : List (Option (List Stp))}, Paired (RowO K H) vs os → DpAll K H vs (os.map rowD)
  | _, _, .nil => .nil
  | _, _, .cons a r => .cons (rowD_dp a) (rows_dp r)
theorem rowD_lay (o : Option (List Stp)) : PyData.canLay0 (rowD o) = true ∧ PyData.depth (rowD o) ≤ 2 ∧ PyData.plain (rowD o) = true := by
  cases o with
  | none => exact ⟨rfl, by decide, rfl⟩
  | some ss =>
    obtain ⟨a, b, c⟩ := stpD_lay ss
    refine ⟨?_, ?_, ?_⟩
    · simp [rowD, PyData.canLay0, a]
    · simp [rowD, PyData.depth]
      omega
    · simp [rowD, PyData.plain, c]
theorem rows_lay : ∀ os : List (Option (List Stp)), PyData.canLayAll0 (os.map rowD) = true ∧ PyData.depthAll (os.map rowD) ≤ 2 ∧ PyData.plainAll (os.map rowD) = true
  | [] => ⟨rfl, by decide, rfl⟩
  | o :: os => by
    obtain ⟨a, b, c⟩ := rows_lay os
    obtain ⟨a1, b1, c1⟩ := rowD_lay o
    refine ⟨by simp [PyData.canLayAll0, a, a1], ?_, by simp [PyData.plainAll, c, c1]⟩
    simp [PyData.depthAll]
    omega
theorem rows_shaped (os : List (Option (List Stp))) : SeqAt.shaped (.list (os.map rowD)) = true := by
  obtain ⟨a, b, _⟩ := rows_lay os
  simp [SeqAt.shaped, PyData.canLay0, PyData.depth, a]
  omega
/-- the value that the law asks for -/
abbrev valR (os : List (Option (List Stp))) : PyData := .tuple [.str "value", .list (os.map rowD)]
theorem valR_shaped (os : List (Option (List Stp))) : SeqAt.shaped (valR os) = true := by
  obtain ⟨a, b, _⟩ := rows_lay os
  have h1 : PyData.strOk "value" = true := by decide +kernel
  simp [valR, SeqAt.shaped, PyData.canLay0, PyData.canLayAll0, PyData.depth, PyData.depthAll, a, h1]
  omega
theorem valR_eqv (os : List (Option (List Stp))) : PyData.eqv (valR os) (valR os) = true := SeqAt.eqv_refl_plain _ (by
  simp [valR, PyData.plain, PyData.plainAll, (rows_lay os).2.2])
abbrev txtR (k : Nat) : PyData := .tuple [.str "text", .int (k : Nat)]
theorem txtR_shaped (k : Nat) : SeqAt.shaped (txtR k) = true := by
  have h1 : PyData.strOk "text" = true := by decide +kernel
  simp [txtR, SeqAt.shaped, PyData.canLay0, PyData.canLayAll0, PyData.depth, PyData.depthAll, h1]
theorem txtR_eqv (k : Nat) : PyData.eqv (txtR k) (txtR k) = true := SeqAt.eqv_refl_plain _ (by
  simp [txtR, PyData.plain, PyData.plainAll])
theorem rowD_none (o : Option (List Stp)) : PyData.eqv (rowD o) .none = o.isNone := by
  cases o with
  | none => rfl
  | some ss => rfl
/-- the first row that is none -/
theorem firstO : ∀ {os : List (Option (List Stp))}, none ∈ os → ∃ k : Nat, os[k]? = some none ∧ ∀ (j : Nat) (o : Option (List Stp)), j < k → os[j]? = some o → o ≠ none
  | none :: os, _ => ⟨0, rfl, fun j o h => by omega⟩
  | some s :: os, h => by
    obtain ⟨k, h1, h2⟩ := firstO (os := os) (by
      rcases (List.mem_cons.mp h) with z | z
      · exact nomatch z
      · exact z)
    refine ⟨k + 1, h1, fun j o hj ho => ?_⟩
    cases j with
    | zero =>
      have : some s = o := Option.some.inj ho
      rw [← this]
      exact nofun
    | succ j => exact h2 j o (by omega) ho
theorem tot_lines {ks : List BkD} (ok : ∀ k ∈ ks, okB k) : tot (ks.map lineB) ≤ ks.length * 101 := by
  have := tot_bound (n := 100) (l := ks.map lineB) fun x hx => by
    obtain ⟨k, hk, rfl⟩ := List.mem_map.mp hx
    have := join_len_le (y := " ") (by decide +kernel) (bWords k)
    have := tot_bk (ok k hk)
    show (Txt.join " " (bWords k)).length ≤ 100
    omega
  rw [List.length_map] at this
  exact this
theorem lines_okS {ks : List BkD} (ok : ∀ k ∈ ks, okB k) : ∀ x ∈ ks.map lineB, okS x := fun x hx => by
  obtain ⟨k, hk, rfl⟩ := List.mem_map.mp hx
  exact (lineB_join (wordB_bk (ok k hk))).2.1
theorem at_last {xs : List V} {v : V} (h : xs[xs.length - 1]? = some v) : atI xs (-1) = some v := by
  have ne : xs ≠ [] := fun z => by rw [z] at h; exact nomatch h
  have e : xs = xs.dropLast ++ [v] := by
    have q := List.getLast?_eq_getElem? (l := xs)
    rw [h, List.getLast?_eq_some_getLast ne] at q
    rw [← Option.some.inj q]
    exact (List.dropLast_concat_getLast ne).symm
  rw [e]
  exact atI_last _ _
/-- the first and the last of bookings -/
theorem ends_B {K : PySem.W.Frag} {D : Kds} {H0 H : Hp} {xs : List V} {ks : List BkD} (pr : Paired (BookV K D H0 H) xs (ks.map bWords)) (ne : ks ≠ []) :
    ∃ a b j k s1 s2, j ∈ ks ∧ k ∈ ks ∧ atI xs 0 = some (.ref a) ∧ atI xs (-1) = some (.ref b) ∧ BookOf K D H a (bWords j) s1 ∧ BookOf K D H b (bWords k) s2 := by
  have l := Paired.length pr
  rw [List.length_map] at l
  have ln : 0 < ks.length := List.length_pos_iff.mpr ne
  obtain ⟨x, hx, a, s1, rfl, _, b1⟩ := paired_getR (i := 0) pr (by rw [List.getElem?_map, List.getElem?_eq_getElem ln]; rfl)
  obtain ⟨y, hy, b, s2, rfl, _, b2⟩ := paired_getR (i := ks.length - 1) pr (by rw [List.getElem?_map, List.getElem?_eq_getElem (show ks.length - 1 < ks.length by omega)]; rfl)
  exact ⟨a, b, _, _, s1, s2, List.getElem_mem ln, List.getElem_mem _, at_of (j := 0) rfl hx, at_last (by rw [l]; exact hy), b1.old, b2.old⟩
end Cc

/-! The end of a row whose law makes lambdas: its code's table is tracked, the script is locked. -/
namespace Cc
open PySem PySem.Spec PyProof.Rows L2
open LamX
/-- the table of a def's code, by what the written part tells -/
theorem tab_mk {K : PySem.W.Frag} {x : Str} {f c P : Addr} {oc oC : Value} {od dC : Option Addr} {fd : FuncData} {sl slC : Array (Option Value)} {vC : Array Value} (a : PySem.W.nsIn K mainGlobals x = some (some (.ref f))) (l : K.lookup f = some ⟨oc, od, .func fd, sl⟩) (hc : fd.code = .ref c)
    (lc : K.lookup c = some ⟨oC, dC, .fields vC, slC⟩) (h : vC[11]? = some (.ref P)) : PySem.W.tabIn K x = some (c, P) := by
  unfold PySem.W.tabIn
  rw [a]
  dsimp only
  rw [l]
  dsimp only
  rw [hc]
  dsimp only
  rw [lc]
  dsimp only
  rw [h]
/-- an own error class catches its own -/
theorem exm_own {K : PySem.W.Frag} {C : Addr} (b : PySem.W.subIn K (.ref C) (.type "BaseException") = some true) (i : PySem.W.isClsIn K C = true) (t : PySem.W.typeIn K (.ref C) = some (.type "type")) (s : PySem.W.subIn K (.ref C) (.ref C) = some true) : PySem.W.exmOne K (.ref C) (.ref C) = some true := by
  have i2 : (PySem.W.clsIn K C).isSome = true := i
  unfold PySem.W.exmOne PySem.W.kitCls
  simp only [b, i2, t, s]
  rfl
theorem call_tab {P : Program} {w : World} {K : PySem.W.Frag} {mg mb : Str → Option Value} {k : Nat} {fa a c T : Addr} {fd : FuncData} {x : Str} {sp : Sp} {st : Shared} {us : List Value} {ns : List Int}
    (kin : K.In st.heap) (gl : st.heap.Ns mainGlobals mg) (bl : st.heap.Ns builtinsNs mb) (blb : ∀ x : Str, x ≠ "__name__" → mb x = bootBuiltins x) (lim : st.heap.NoLimit) (ge : st.gens = #[])
    (atT : st.heap.get? T = some { cls := .none, data := .fields #[] }) (kT : K.lookup T = none) (cd : PySem.W.CodeHd st.heap c T)
    (mn : ∃ (bm : Addr) (ob : Obj), mg "__builtins__" = some (.ref bm) ∧ bm ≠ builtinsNs ∧ st.heap.get? bm = some ob ∧ ob.cls = .type "module" ∧ ob.dict = some builtinsNs ∧ ob.data = .plain)
    (atA : st.heap.get? a = some { cls := .type "list", data := .seq us.toArray }) (isI : IntsAre us ns) (len : ns.length ≤ sizeLine) (room : Room k callerA)
    (F : ∀ base : Heap, K.In base → base.Ns mainGlobals mg → TabB base mg c T → FnOk P w K mg base CX0 k fa fd [x] sp) (bind : ∀ (s : Shared) (u : Value), BindsTo s fd ⟨[u], []⟩ [(x, u)])
    (hsp : ∀ H : Hp, H T = some (.tbl #[]) → SqF K H a (ns.map V.int) → sp [.ref a] H (fun v _ => v = .bl true) fun _ _ _ => False) :
    codeAny (model P w) callerA (.call (.ref fa) ⟨[.ref a], []⟩) (fun r s' => r = .ok (.ret (.bool true)) ∧ OldK st.heap s'.heap ∧ s'.os = st.os ∧ AllBare s'.gens) st := by
  have rel := vals_ints isI
  have many := isI.length
  have neq : a ≠ T := fun z => by
    rw [z, atT] at atA
    cases atA
  obtain ⟨H, hT, hO, hS, hok, hA, hK⟩ : ∃ H : Hp, H T = some (.tbl #[]) ∧ (∀ b, H b = none ∨ b = T ∨ ∃ o xs, H b = some (.frz o (.lst xs))) ∧ SqF K H a (ns.map V.int) ∧ HOk P w H st.heap ∧ (∀ b, H b ≠ none → b = a ∨ b = T) ∧ (H a ≠ none → K.lookup a = none) := by
    cases hk : K.lookup a with
    | some o =>
      have e := kin a o hk
      rw [atA] at e
      cases e
      refine ⟨fun b => if b = T then some (.tbl #[]) else none, if_pos rfl, fun b => ?_, .inr (.inr ⟨_, us.toArray, _, hk, rfl, rfl, rfl, by rw [List.size_toArray, many]; exact len, by simpa using rel⟩), fun b u z => ?_, fun b z => ?_, fun z => (z (if_neg neq)).elim⟩
      · by_cases q : b = T
        · exact .inr (.inl q)
        · exact .inl (if_neg q)
      · by_cases q : b = T
        · cases (if_pos q).symm.trans z
          rw [q]
          exact atT
        · cases (if_neg q).symm.trans z
      · by_cases q : b = T
        · exact .inr q
        · exact (z (if_neg q)).elim
    | none =>
      refine ⟨fun b => if b = a then some (.frz { cls := .type "list", data := .seq us.toArray } (.lst (ns.map V.int))) else if b = T then some (.tbl #[]) else none, (if_neg neq.symm).trans (if_pos rfl), fun b => ?_, .inl ⟨_, if_pos rfl⟩, fun b u z => ?_, fun b z => ?_, fun _ => rfl⟩
      · by_cases q : b = a
        · exact .inr (.inr ⟨_, _, if_pos q⟩)
        · by_cases q2 : b = T
          · exact .inr (.inl q2)
          · exact .inl ((if_neg q).trans (if_neg q2))
      · by_cases q : b = a
        · cases (if_pos q).symm.trans z
          rw [q]
          exact ⟨atA, by rw [List.length_map]; exact len, us, _, rel, atA⟩
        · by_cases q2 : b = T
          · cases (if_pos q2).symm.trans ((if_neg q).symm.trans z)
            rw [q2]
            exact atT
          · cases (if_neg q2).symm.trans ((if_neg q).symm.trans z)
      · by_cases q : b = a
        · exact .inl q
        · by_cases q2 : b = T
          · exact .inr q2
          · exact (z ((if_neg q).trans (if_neg q2))).elim
  -- what is no list and no table lies in the ground
  have plain : ∀ {b : Addr} {o : Obj}, st.heap.get? b = some o → (∀ vs n, o.data ≠ .seq vs n) → o.data ≠ .fields #[] → H b = none := fun {b o} e n1 n2 => by
    cases q : H b with
    | none => rfl
    | some u =>
      rcases hA b (by rw [q]; exact fun z => nomatch z) with z | z
      · rw [z, atA] at e
        cases e
        exact (n1 _ _ rfl).elim
      · rw [z, atT] at e
        cases e
        exact (n2 rfl).elim
  have dictB : ∀ {b : Addr} {m : Str → Option Value}, st.heap.Ns b m → (hidT st.heap H).Ns b m := fun {b m} ⟨o, es, ep, e, d, r⟩ => ⟨o, es, ep, hidT_get e (plain e (fun vs n z => by rw [d] at z; cases z) fun z => by rw [d] at z; cases z), d, r⟩
  have kinB : K.In (hidT st.heap H) := fun b o e => hidT_get (kin b o e) (by
    cases q : H b with
    | none => rfl
    | some u =>
      have n0 : H b ≠ none := by rw [q]; exact fun z => nomatch z
      rcases hA b n0 with z | z
      · subst z
        rw [hK n0] at e
        cases e
      · rw [z, kT] at e
        cases e)
  have modB : L2.Mod K mg (hidT st.heap H) := ⟨kinB, dictB gl, ⟨mb, dictB bl, blb⟩, let ⟨mc, h1, h2⟩ := lim; ⟨mc, dictB h1, h2⟩⟩
  have TB : TabB (hidT st.heap H) mg c T := by
    refine ⟨?_, ?_, fun z => ?_⟩
    · obtain ⟨o, vs, file, tf, flags, tg, inF, text, tt, e1, r1, r2, r3, more⟩ := cd
      exact ⟨o, vs, file, tf, flags, tg, inF, text, tt, hidT_get e1 (plain e1 (fun vs n z => by rw [r2] at z; cases z) fun z => by rw [r2] at z; cases z; simp at r3), r1, r2, r3, more⟩
    · obtain ⟨bm, ob, b1, b2, b3, b4, b5, b6⟩ := mn
      refine ⟨bm, ob, b1, b2, fun q => ?_, fun q => ?_, hidT_get b3 (plain b3 (fun vs n z => by rw [b6] at z; cases z) fun z => by rw [b6] at z; cases z), b4, b5, b6⟩
      · obtain ⟨o, es, ep, e, d, _⟩ := gl
        rw [q, e] at b3
        cases b3
        rw [d] at b6
        cases b6
      · rw [q, atT] at b3
        cases b3
        cases b6
    · obtain ⟨o, es, ep, e, d, _⟩ := gl
      rw [z, atT] at e
      cases e
      cases d
  have e0 : Env0 P w K mg (hidT st.heap H) callerA [] st H := ⟨rfl, modB, fun b o e => of_hidT e, Nat.le_of_eq (hidT_size _ _), trivial, fun b hb => absurd (show b ∈ ([] : List Addr) from hb) List.not_mem_nil, hok, .of_eq ge⟩
  refine codeAny_mono ((F _ kinB (dictB gl) TB).run callerA [] st H ⟨[.ref a], []⟩ [.ref a] [.ref a] _ _ room e0 (bind st (.ref a)) (.cons rfl .nil) (hsp H hT hS)) fun r s' h => ?_
  cases r with
  | error e => exact False.elim h
  | ok fl =>
    cases fl with
    | next => exact False.elim h
    | brk => exact False.elim h
    | cont => exact False.elim h
    | ret u =>
      obtain ⟨v, H', os, bare, un, hok2, r2, q⟩ := h
      cases (show v = V.bl true from q)
      cases (show u = Value.bool true from r2)
      have kept : ∀ b o, b ≠ T → st.heap.get? b = some o → s'.heap.get? b = some o := fun b o nb e => by
        rcases hO b with z | z | ⟨ob, ys, z⟩
        · exact un.keep b o e z (fun w => absurd (show b ∈ ([] : List Addr) from w) List.not_mem_nil) (fun z => nomatch z)
        · exact (nb z).elim
        · obtain ⟨e1, _⟩ := hok b _ z
          obtain ⟨e2, _⟩ := hok2 b _ (un.frzs b ob _ z)
          rw [e] at e1
          cases e1
          exact e2
      obtain ⟨more, hm⟩ := un.tbls T #[] hT
      have grown : s'.heap.get? T = some { cls := .none, data := .fields (#[] ++ more) } := hok2 T _ hm
      refine ⟨rfl, ⟨fun b oo e => ?_, fun b oo e => ?_⟩, os, bare⟩
      · by_cases q : b = T
        · subst q
          rw [atT] at e
          cases e
          exact .inr (.inl ⟨(cd.tab atT).isCodeTable, rfl, #[], more, rfl, grown⟩)
        · exact .inl (kept b oo q e)
      · by_cases q : b = T
        · rw [q]
          exact ⟨_, grown⟩
        · exact ⟨oo, kept b oo q e⟩
/-- the row's end -/
theorem walk_tab {l : PySem.W.OpenLaw} {n k : Nat} {q : Program} {loose : List Str} {XP : (Str → Option Value) → Heap → Prop} {YP : World → Heap → Prop} {d : DefRec} {K : Params → PySem.W.Frag} {sp : World → Addr → Sp} {x : Str}
    (hn : l.most = some n) (hn2 : n ≤ sizeLine) (hdf : d.params.defaults = []) (hr : Room k callerA) (hY : ∀ (w : World) (h : Heap), YP w h → (K w.params).In h) (hd : (recsOf q).find? (fun e => e.name == d.name) = some d)
    (F : ∀ (w : World) (mg : Str → Option Value) (fa : Addr) (h : Heap), (K w.params).In h → h.Ns mainGlobals mg → mg d.name = some (.ref fa) → ∃ (fd : FuncData) (c T : Addr), PySem.W.tabIn (K w.params) d.name = some (c, T) ∧ (K w.params).lookup T = none ∧ (∀ (s : Shared) (u : Value), BindsTo s fd ⟨[u], []⟩ [(x, u)]) ∧
      ∀ base : Heap, (K w.params).In base → base.Ns mainGlobals mg → TabB base mg c T → FnOk l.prog w (K w.params) mg base CX0 k fa fd [x] (sp w T))
    (hsp : ∀ (w : World) (T : Addr) (H : Hp) (a : Addr) (ns : List Int), ns.length ≤ n → H T = some (.tbl #[]) → SqF (K w.params) H a (ns.map V.int) → sp w T [.ref a] H (fun v _ => v = .bl true) fun _ _ _ => False) :
    PySem.W.WalkO q loose XP YP l.row.toRowW d [] (fun g us => PySem.call g us) := by
  refine Att.attach_callB hn hdf fun w s₀ s₁ mg mb fa o pm cd doc a vs ns G Y ho hdat hcd hmg hobj hints hlen hbits hg => ?_
  have kin := hY w _ Y
  obtain ⟨fd, c, T, ht, kT, hb, hF⟩ := F w mg fa _ kin G.T.g hmg
  obtain ⟨C, atT⟩ := PySem.W.tab_of G.T kin hd ht
  exact call_tab kin G.T.g G.T.b G.T.builtins G.T.nolimit hg atT kT C G.T.bmain hobj hints (Nat.le_trans hlen hn2) hr hF hb fun H h1 h2 => hsp w T H a ns hlen h1 h2
end Cc

namespace Cc
open PySem PySem.Spec PyProof.Rows L2
/-- the nine classes of errors, asked of InvalidNumber -/
structure KindN (K : PySem.W.Frag) (mg : Str → Option Value) (eDa eDe eBo eNu eOp ePl eTe eEn eFe : Addr) : Prop where
  ec : ExcC K eNu
  t0 : mg "DaybookError" = some (.ref eDa)
  t1 : mg "DecodeError" = some (.ref eDe)
  t2 : mg "InvalidBooking" = some (.ref eBo)
  t3 : mg "InvalidNumber" = some (.ref eNu)
  t4 : mg "InvalidOperation" = some (.ref eOp)
  t5 : mg "InvalidPlan" = some (.ref ePl)
  t6 : mg "InvalidText" = some (.ref eTe)
  t7 : mg "NotEnough" = some (.ref eEn)
  t8 : mg "TooFewChairs" = some (.ref eFe)
  k0 : PySem.W.kitOne K (.ref eNu) (.ref eDa) = some false
  k1 : PySem.W.kitOne K (.ref eNu) (.ref eDe) = some false
  k2 : PySem.W.kitOne K (.ref eNu) (.ref eBo) = some false
  k3 : PySem.W.kitOne K (.ref eNu) (.ref eNu) = some true
  k4 : PySem.W.kitOne K (.ref eNu) (.ref eOp) = some false
  k5 : PySem.W.kitOne K (.ref eNu) (.ref ePl) = some false
  k6 : PySem.W.kitOne K (.ref eNu) (.ref eTe) = some false
  k7 : PySem.W.kitOne K (.ref eNu) (.ref eEn) = some false
  k8 : PySem.W.kitOne K (.ref eNu) (.ref eFe) = some false
  kv : PySem.W.kitOne K (.ref eNu) (.type "ValueError") = some true
end Cc

namespace Cc
open PySem PySem.Spec PyProof.Rows L2
theorem sub_ne {K : PySem.W.Frag} {A B : Addr} (s : PySem.W.subIn K (.ref A) (.ref A) = some true) (h : PySem.W.subIn K (.ref A) (.ref B) = some false) : (Value.ref A == Value.ref B) = false := by
  refine Bool.eq_false_iff.mpr fun q => ?_; have e : A = B := Value.ref.inj (beq_iff_eq.mp q)
  subst e
  rw [s] at h
  cases h
theorem kit_noB {K : PySem.W.Frag} {A B : Addr} (s : PySem.W.subIn K (.ref A) (.ref A) = some true) (i : PySem.W.isClsIn K B = true) (t : PySem.W.typeIn K (.ref B) = some (.type "type")) (h : PySem.W.subIn K (.ref A) (.ref B) = some false) : PySem.W.kitOne K (.ref A) (.ref B) = some false :=
  kit_ref i t h fun _ => sub_ne s h
theorem kit_ve {K : PySem.W.Frag} {D : Addr} (h : PySem.W.subIn K (.ref D) (.type "ValueError") = some true) : PySem.W.kitOne K (.ref D) (.type "ValueError") = some true := by
  unfold PySem.W.kitOne
  rw [if_neg (by simp)]
  show (if PySem.W.kitMeta "ValueError" = true then _ else none) = _
  rw [if_pos (by decide +kernel)]
  exact h
theorem kbn_red {K : PySem.W.Frag} {x qual : Str} {params : Arguments} {body : List Stmt} {scope : Scope} {kV doc pm cdv ct : Value} {an : Option Addr} (h : ∀ (s : Shared) (a b z : Value), BindsTo s (PySem.W.fnOf x qual params body scope .none kV doc pm an cdv ct) ⟨[a, b], [("red", z)]⟩ [("self", a), ("chairs", b), ("red", z)]) :
    KBn K (PySem.W.fnOf x qual params body scope .none kV doc pm an cdv ct) ["self", "chairs", "red"] 2 ["red"] (fun us ws => us ++ ws) (fun vs zs => vs ++ zs) :=
  ⟨fun s us ws _ l1 l2 => match us, ws, l1, l2 with | [a, b], [z], _, _ => h s a b z, fun r1 r2 => r1.append r2⟩
end Cc

/-! The other kinds of errors. -/
namespace Cc
open PySem PySem.Spec PyProof.Rows L2
theorem flags_daybook : Flags true false false false false false false false false 0 "daybook" := ⟨by decide +kernel, by decide +kernel, by decide +kernel, rfl, fun m z hm hz => absurd hm (Nat.not_lt_zero m), rfl⟩
theorem flags_code : Flags false true false false false false false false false 1 "code" := ⟨by decide +kernel, by decide +kernel, by decide +kernel, rfl, fun m z hm hz => by
  match m, hm with
  | 0, _ => cases hz; decide +kernel, rfl⟩
theorem flags_operation : Flags false false false false true false false false false 4 "operation" := ⟨by decide +kernel, by decide +kernel, by decide +kernel, rfl, fun m z hm hz => by
  match m, hm with
  | 0, _ => cases hz; decide +kernel
  | 1, _ => cases hz; decide +kernel
  | 2, _ => cases hz; decide +kernel
  | 3, _ => cases hz; decide +kernel, rfl⟩
theorem flags_plan : Flags false false false false false true false false false 5 "plan" := ⟨by decide +kernel, by decide +kernel, by decide +kernel, rfl, fun m z hm hz => by
  match m, hm with
  | 0, _ => cases hz; decide +kernel
  | 1, _ => cases hz; decide +kernel
  | 2, _ => cases hz; decide +kernel
  | 3, _ => cases hz; decide +kernel
  | 4, _ => cases hz; decide +kernel, rfl⟩
theorem flags_text : Flags false false false false false false true false false 6 "text" := ⟨by decide +kernel, by decide +kernel, by decide +kernel, rfl, fun m z hm hz => by
  match m, hm with
  | 0, _ => cases hz; decide +kernel
  | 1, _ => cases hz; decide +kernel
  | 2, _ => cases hz; decide +kernel
  | 3, _ => cases hz; decide +kernel
  | 4, _ => cases hz; decide +kernel
  | 5, _ => cases hz; decide +kernel, rfl⟩
end Cc

set_option maxHeartbeats 16000000
/-! The law of texts of bookings. -/
namespace Cc
open PySem PySem.Spec PyProof.Rows L2 TL
open LamX
def spLawT (K : PySem.W.Frag) (Pt : Addr) : Sp := fun vs H Q _ => ∃ (a : Addr) (ns : List Int), vs = [.ref a] ∧ SqF K H a (ns.map V.int) ∧ ns.length ≤ 63 ∧ H Pt = some (.tbl #[]) ∧ ∀ H', Q (.bl true) H'
theorem fnr_calm {P : Program} {w : World} {K : PySem.W.Frag} {mg : Str → Option Value} {base : Heap} {k : Nat} {f : Addr} {sp : Sp} (F : FnR P w K mg base (L2.CX P w) k f sp) : FnR P w K mg base CX0 k f (fun vs H Q _ => sp vs H Q E0) := by
  intro A outer s H us vs Q E hr e0 r h
  refine codeAny_mono (F A outer s H us vs Q E0 hr e0 r h) fun z s' hq => ?_
  cases z with
  | error e =>
    obtain ⟨_, _, _, _, _, _, _, _, _, _, _, _, z⟩ := hq
    exact z.elim
  | ok fl =>
    cases fl with
    | ret u => exact hq
    | next => exact hq
    | brk => exact hq
    | cont => exact hq
theorem pe_callR0 {X : Cx} {CX : CXT} {k : Nat} {f : Addr} {sp : Sp} {Ez : XK} {x : Str} {p pos : Pos} (F : FnR X.prog X.w X.K X.mg X.base CX k f sp) (kr : Room k X.A) (kg : Gl X x) (km : X.mg x = some (.ref f)) (kk : PySem.W.keepIn X.K (.ref f) = true) (kx : Passes CX X Ez) (kdb : (x == ("__debug__" : Str)) = false := by decide) :
    PE X (.Call (.Name x p) [] [] pos) (fun _ Hh Qz => sp [] Hh Qz Ez) := by
  refine ⟨fun pz s sg Hh Qz J h => ?_⟩
  refine wpAny_Call_Name_kw (ld_glob J kg km ?_ kdb)
  exact PySem.W.callWith_K0 J.kIn kk (wpAny_call (run_fnR (us := []) F kr kx J .nil h))
theorem tabs_draw {T : List (Addr × Str)} {h l : Addr} {H H' : Hp} (t : Tabs T H) (b : But2 h l H H') (n : NextAt H h l) : Tabs T H' := fun p hp => by
  obtain ⟨xs, hx⟩ := n.h1
  obtain ⟨ys, hy⟩ := n.l1
  obtain ⟨ps, t1, t2, t3⟩ := t p hp
  refine ⟨ps, b _ _ (ne_of t1 hx fun z => nomatch z) (ne_of t1 hy fun z => nomatch z) t1, t2, fun pos cv hc => ?_⟩
  obtain ⟨c0, e1, e2⟩ := t3 pos cv hc
  exact ⟨c0, e1, b _ _ (ne_of e2 hx fun z => by unfold CodeO at z; exact nomatch z) (ne_of e2 hy fun z => by unfold CodeO at z; exact nomatch z) e2⟩
theorem sm_steps {K : PySem.W.Frag} {H : Hp} : ∀ {us vs : List V} {ss : List Stp}, StepsV K H us ss → StepsV K H vs ss → Paired (SmD K H 1) us vs
  | _, _, [], .nil, .nil => .nil
  | _, _, s :: ss, .cons ⟨t, e1, f1⟩ r1, .cons ⟨t', e2, f2⟩ r2 => by
    subst e1 e2
    refine .cons (.inr ⟨t, t', stpV s, stpV s, rfl, rfl, by cases s <;> simp [stpV], ?_, .inr ⟨fun H' g => f1 H' fun _ _ e => g.1 _ _ e, fun H' g => f2 H' fun _ _ e => g.1 _ _ e⟩⟩) (sm_steps r1 r2)
    cases s with
    | turn => exact .cons ⟨rfl, .inr (.inl ⟨_, rfl⟩)⟩ .nil
    | meet b n => exact .cons ⟨rfl, .inr (.inl ⟨_, rfl⟩)⟩ (.cons ⟨rfl, .inl ⟨_, rfl⟩⟩ .nil)
theorem sm_up {K : PySem.W.Frag} {H : Hp} {v w : V} {n : Nat} (h : SmD K H n v w) : SmD K H (n + 1) v w := .inl h
theorem StepsV.extN {K : PySem.W.Frag} {H H1 : Hp} {vs : List V} {ss : List Stp} (g : StepsV K H vs ss) (y : ExtN H H1) : StepsV K H1 vs ss := g.mono fun _ _ e => y _ _ e fun _ z => nomatch z
theorem NextAt.extN {h l : Addr} {H H1 : Hp} (n : NextAt H h l) (y : ExtN H H1) : NextAt H1 h l :=
  let ⟨m, k, ns, a, b, c, d⟩ := n
  ⟨m, k, ns, y _ _ a (fun _ z => nomatch z), y _ _ b (fun _ z => nomatch z), c, d⟩
theorem sm_rows {K : PySem.W.Frag} {H : Hp} : ∀ {ws us : List V} {ks : List BkD}, (∀ k ∈ ks, okB k) → Paired (fun v r => ∃ ss, readB r = some ss ∧ RowL K H v ss) ws (ks.map bWords) → Paired (RowL K H) us (ks.map bSteps) → Paired (SmD K H 2) ws us
  | _, _, [], _, .nil, .nil => .nil
  | _, _, k :: ks, ok, .cons ⟨ss, hs, a, xs, e1, e2, e3⟩ r1, .cons ⟨b, ys, e4, e5, e6⟩ r2 => by
    have q := readB_bk (ok k List.mem_cons_self)
    rw [q] at hs
    have hs := Option.some.inj hs
    subst hs e1 e4
    have l := e3.length
    have l2 := readB_len q
    exact .cons (.inr ⟨a, b, xs, ys, rfl, rfl, by omega, sm_steps e3 e6, .inl ⟨e2, e5⟩⟩) (sm_rows (fun k hk => ok k (List.mem_cons_of_mem _ hk)) r1 r2)
theorem RowO.extN {K : PySem.W.Frag} {H H1 : Hp} {v : V} : ∀ {o : Option (List Stp)}, RowO K H v o → ExtN H H1 → RowO K H1 v o
  | none, r, _ => r
  | some _, ⟨b, us, e, e1, e2⟩, y => ⟨b, us, e, y _ _ e1 (fun _ z => nomatch z), e2.extN y⟩
theorem any_none (os : List (Option (List Stp))) : ((os.map rowD).any fun z => PyData.eqv z .none) = os.any Option.isNone := by
  rw [List.any_map]
  exact congrArg os.any (funext fun o => rowD_none o)
theorem any_some {rows : List (List Str)} (h : ∀ ws ∈ rows, readB ws ≠ none) : (rows.map readB).any Option.isNone = false := by
  rw [List.any_map, List.any_eq_false]
  intro ws hw z
  exact h ws hw (Option.isNone_iff_eq_none.mp z)
theorem any_at {rows : List (List Str)} {k : Nat} {ws : List Str} (h : rows[k]? = some ws) (hn : readB ws = none) : (rows.map readB).any Option.isNone = true := by
  rw [List.any_map, List.any_eq_true]
  exact ⟨ws, List.mem_of_getElem? h, by show (readB ws).isNone = true; rw [hn]; rfl⟩
theorem rows_of {K : PySem.W.Frag} {H : Hp} {ws : List V} {rows : List (List Str)} (h : Paired (fun v r => ∃ ss, readB r = some ss ∧ RowL K H v ss) ws rows) : Paired (RowO K H) ws (rows.map readB) := by
  induction h with
  | nil => exact .nil
  | @cons v r vs rs a b ih =>
    obtain ⟨ss, h1, h2⟩ := a
    refine .cons ?_ ih
    rw [h1]
    exact h2
def spParseC (K : PySem.W.Frag) (D : Kds) (ET : Addr) : Sp := fun vs H Q _ => spParse K D ET vs H Q E0
abbrev lamSc : Scope := { kind := .function, names := [("_law_bent_here", .free), ("parse_bookings", .globalImplicit)], isGenerator := false, isCoroutine := false, more := [("fast", .str "_law_booking_here"), ("fast", .str "_law_bent_here")] }
/-- the line of the booking at a place of the list in a slot -/
def tLineX (K : PySem.W.Frag) (D : Kds) (i : Nat) (j : Int) : TE := fun σ H Q => ∃ p xs a ws ss, σ[i]? = some (some (.ref p)) ∧ SqL K H p xs ∧ atI xs j = some (.ref a) ∧ BookOf K D H a ws ss ∧ tot ws ≤ 100000 ∧ Q (.str (Txt.join " " ws)) H
theorem pe_lineX {X : Cx} {D : Kds} {pP pC gC pL gL : Addr} {fdL : FuncData} {i : Nat} {j : Int} {o : Expr} {pos : Pos} {te : TE} (he : PE X o te) (hte : ∀ σ H Q p xs v, σ[i]? = some (some (.ref p)) → SqL X.K H p xs → atI xs j = some v → Q v H → te σ H Q)
    (A : KdsAt X.K D pP pC gC pL gL) (F : Fun X.K "line" "Booking.line" s_Booking_line gL fdL) (hb : Binds X.K fdL ["self"] []) (hr : Room 2 X.A) (hab : attributeBase o "line" X.env (eval o X.env) = eval o X.env := by rfl) : PE X (.Attribute o "line" pos) (tLineX X.K D i j) := by
  have one : ∀ {CB : Addr}, KdAt X.K CB pP pC gC pL gL → PE X (.Attribute o "line" pos) (tProp CB (spBkLine X.K CB) [] E0 te) := fun k => pe_prop he k.O.cl k.pL (ok_Booking_line F k.O) hr hb .nil pass0 hab
  refine PE.of (pe_orE (one A.m) (pe_orE (one A.s) (pe_orE (one A.a) (one A.t)))) fun σ H Q ⟨p, xs, a, ws, ss, hv, hs, ha, hB, ht, q⟩ => ?_
  have tell : ∀ {CB : Addr}, BookAt X.K CB H a ws ss → tProp CB (spBkLine X.K CB) [] E0 te σ H Q := fun b => hte _ _ _ _ _ _ hv hs ha ⟨a, _, _, rfl, b.choose_spec.choose_spec.choose_spec.choose_spec.1, a, ws, ss, rfl, b, ht, q⟩
  exact hB.imp tell (·.imp tell (·.imp tell tell))
section
variable {P : Program} {w : World} {K : PySem.W.Frag} {mg : Str → Option Value} {base : Heap} {C CER TU pS gS e0 e1 e2 e3 e4 e5 e6 e7 e8 pP pC gC pL gL : Addr} {mc : Value} {D : Kds} {fdP fdL : FuncData}
abbrev sLaw : Stmt := top 46
abbrev nLaw : List Str := ["_law_script", "_law_h", "_law_turn", "_law_some", "_law_text", "_law_found", "_law_ends", "_law_change", "_law_bent_here", "_law_rows", "_law_result", "_law_k", "_law_words", "_law_steps", "_law_booking_here", "_law_line"]
abbrev qLam : Str := (envOfC "law" (defScope sLaw) 0 0 .none).qual ++ "<lambda>"
abbrev XL (P : Program) (w : World) (K : PySem.W.Frag) (mg : Str → Option Value) (base : Heap) (f c : Addr) (A : Around) (outer : List Env) (s : Shared) (H : Hp) (E : XK) : Cx := (cxOf CX0 P w K mg base nLaw "law" (defScope sLaw) f (.ref c) A outer s H E).nox
theorem scLaw : FnScope nLaw ["_law_script"] (defScope sLaw) := ⟨rfl, rfl, rfl, by decide +kernel, rfl, by decide +kernel, by decide +kernel⟩
theorem ok_law {f c Pt f__law_mix f__law_next f__law_booking f_parse_bookings f__law_alike f_format_bookings f__law_bent f__law_read fO fpx : Addr} {oc kV doc pm ct : Value} {od an : Option Addr} {osl : Array (Option Value)} {fdO : FuncData}
    (lk : K.lookup f = some ⟨oc, od, .func (PySem.W.fnOf "law" "law" (defArgs sLaw) (defBody sLaw) (defScope sLaw) .none kV doc pm an (.ref c) ct), osl⟩) (hcd : PySem.W.codeIn K (.ref c) "law" = true) (TB : TabB base mg c Pt) (T : Txt K mg C TU pS gS mc)
    (D__law_mix : Dn P w K mg base 1 "_law_mix" f__law_mix (spMix K)) (D__law_next : Dn P w K mg base 1 "_law_next" f__law_next spNext) (D__law_booking : Dn P w K mg base 3 "_law_booking" f__law_booking (spDraw K)) (D_parse_bookings : Dn P w K mg base 8 "parse_bookings" f_parse_bookings (spParseC K D e6)) (D__law_alike : Dn P w K mg base 6 "_law_alike" f__law_alike (spAlike K 5)) (D_format_bookings : Dn P w K mg base 4 "format_bookings" f_format_bookings (spFmt K D)) (D__law_bent : Dn P w K mg base 2 "_law_bent" f__law_bent spBent) (D__law_read : Dn P w K mg base 2 "_law_read" f__law_read (spLRead K))
    (KA : KdsAt K D pP pC gC pL gL) (FPl : Fun K "planned" "Booking.planned" s_Booking_planned pP fdP) (bPl : Binds K fdP ["self"] []) (FLi : Fun K "line" "Booking.line" s_Booking_line gL fdL) (bLi : Binds K fdL ["self"] []) (FO : Fun K "_law_outcome" "_law_outcome" sOutcome fO fdO) (atO : mg "_law_outcome" = some (.ref fO)) (kpO : PySem.W.keepIn K (.ref fO) = true) (bO : Binds K fdO ["_law_call"] []) (hCE : mg "ChairError" = some (.ref CER)) (NG : Nine mg e0 e1 e2 e3 e4 e5 e6 e7 e8) (KT : IsKind K CER e0 e1 e2 e3 e4 e5 e6 e7 e8 e6 "text") (DXp : DnX P w K mg base 8 "parse_bookings" fpx (spParse K D e6)) :
    FnOk P w K mg base CX0 13 f (PySem.W.fnOf "law" "law" (defArgs sLaw) (defBody sLaw) (defScope sLaw) .none kV doc pm an (.ref c) ct) ["_law_script"] (spLawT K Pt) := by
  have B := T.b
  refine fn_of lk hcd scLaw (fun vs H Q E h => ?_) fun A outer s H vs Q E hr h => ?_
  · obtain ⟨a, ns, rfl, _⟩ := h
    rfl
  · obtain ⟨a, ns, rfl, hF, hlen, hPt, k⟩ := h
    suffices h : ∃ t, PSs (XL P w K mg base f c A outer s H E) (defBody sLaw) t ∧ t { nx := fun _ H' => Q .non H', rt := Q } (start nLaw [.ref a]) H from let ⟨t, h1, h2⟩ := h; ⟨t, h1.nox, h2⟩
    have hm : (Pt, (XL P w K mg base f c A outer s H E).env.qual ++ "<lambda>") ∈ [(Pt, qLam)] := List.mem_singleton.mpr rfl
    have hu : ∀ p ∈ [(Pt, qLam)], p.1 = Pt → p.2 = (XL P w K mg base f c A outer s H E).env.qual ++ "<lambda>" := fun p hp _ => by rw [List.mem_singleton.mp hp]; rfl
    refine ⟨_, pss_cons (ps_set (i := 1) scLaw.nd rfl (.inr rfl) (pe_callR D__law_mix.ok (hr.mono (by decide)) rfl D__law_mix.at_ D__law_mix.kp pass0 (pa_cons (pv 0) (pa_cons pe_int pa_nil))))
      (pss_cons (ps_for PassesOwn.never rfl (pi_range1 rfl T.b.range (pa_cons pe_int pa_nil)) (pg_name (i := 2) scLaw.nd rfl (.inl rfl))
        (pss_cons (ps_setLc (i := 3) (own := [("_law_k", 11)]) (g := gName 11) (tt := tYes) (te := (fun σ H Q => (tCons (tVar 1) tNil) σ H fun vs H1 => (spDraw K) vs H1 Q E0)) rfl scLaw.nd rfl rfl (sw_true rfl rfl rfl (by decide +kernel)) (pi_range1 rfl T.b.range (pa_cons (pe_op op_add pe_int (pe_callR D__law_next.ok (hr.mono (by decide)) rfl D__law_next.at_ D__law_next.kp pass0 (pa_cons (pv 1) (pa_cons pe_int pa_nil)))) pa_nil)) (blkOk_by (N := nLaw) (sc := defScope sLaw) (by decide +kernel)) (fun _ _ _ _ _ => pg_name (i := 11) scLaw.nd rfl (.inl rfl)) (fun _ _ _ _ _ => by exact pts_nil) (fun _ _ _ _ _ => by exact (pe_callR D__law_booking.ok (hr.mono (by decide)) rfl D__law_booking.at_ D__law_booking.kp pass0 (pa_cons (pv 1) pa_nil))))
        (pss_cons (ps_set (i := 4) scLaw.nd rfl (.inl rfl) (pe_join pe_str (pe_lc (own := [("_law_words", 12), ("_law_steps", 13)]) (g := gTup K 2 (gCons (gName 12) (gCons (gName 13) gNil))) (tt := tYes) (te := (tM1 (rJoinK K) (tC (.str " ")) (tVar 12))) rfl scLaw.nd (pi_list (pv 3)) (blkOk_by (N := nLaw) (sc := defScope sLaw) (by decide +kernel)) (fun _ _ _ _ _ => by exact (pg_tup rfl (pgs_cons (pg_name (i := 12) scLaw.nd rfl (.inl rfl)) (pgs_cons (pg_name (i := 13) scLaw.nd rfl (.inl rfl)) pgs_nil)))) (fun _ _ _ _ _ => by exact pts_nil) (fun _ _ _ _ _ => by exact (pe_join pe_str (pv 12))))))
        (pss_cons (ps_set (i := 5) scLaw.nd rfl (.inl rfl) (pe_callR D_parse_bookings.ok (hr.mono (by decide)) rfl D_parse_bookings.at_ D_parse_bookings.kp pass0 (pa_cons (pv 4) pa_nil)))
        (pss_cons (ps_if (pt_not (pt_val (pe_callR D__law_alike.ok (hr.mono (by decide)) rfl D__law_alike.at_ D__law_alike.kp pass0 (pa_cons (pe_lc (own := [("_law_booking_here", 14)]) (g := gName 14) (tt := tYes) (te := (tPlan4 K D 14)) rfl scLaw.nd (pi_list (pv 5)) (blkOk_by (N := nLaw) (sc := defScope sLaw) (by decide +kernel)) (fun _ _ _ _ _ => pg_name (i := 14) scLaw.nd rfl (.inl rfl)) (fun _ _ _ _ _ => by exact pts_nil) (fun _ _ _ _ _ => by exact (pe_plan4 (pv 14) KA FPl bPl (hr.mono (by decide)) (by rfl) B.list))) (pa_cons (pe_lc (own := [("_law_words", 12), ("_law_steps", 13)]) (g := gTup K 2 (gCons (gName 12) (gCons (gName 13) gNil))) (tt := tYes) (te := (tVar 13)) rfl scLaw.nd (pi_list (pv 3)) (blkOk_by (N := nLaw) (sc := defScope sLaw) (by decide +kernel)) (fun _ _ _ _ _ => by exact (pg_tup rfl (pgs_cons (pg_name (i := 12) scLaw.nd rfl (.inl rfl)) (pgs_cons (pg_name (i := 13) scLaw.nd rfl (.inl rfl)) pgs_nil)))) (fun _ _ _ _ _ => by exact pts_nil) (fun _ _ _ _ _ => by exact (pv 13))) pa_nil)))))
          (pss_one (ps_ret pe_bl)) pss_nil)
        (pss_cons (ps_if (pt_cmpR (op_neD hr.units) (pe_lc (own := [("_law_booking_here", 14)]) (g := gName 14) (tt := tYes) (te := (tLine4 K D 14)) rfl scLaw.nd (pi_list (pv 5)) (blkOk_by (N := nLaw) (sc := defScope sLaw) (by decide +kernel)) (fun _ _ _ _ _ => pg_name (i := 14) scLaw.nd rfl (.inl rfl)) (fun _ _ _ _ _ => by exact pts_nil) (fun _ _ _ _ _ => by exact (pe_line4 (pv 14) KA FLi bLi (hr.mono (by decide)) rfl))) (pe_split (pv 4) pe_str) (nomark _))
          (pss_one (ps_ret pe_bl)) pss_nil)
        (pss_cons (ps_set (i := 6) scLaw.nd rfl (.inl rfl) (pe_lst (pa_cons (pe_lineX (i := 5) (j := 0) (pe_ix ix_list (pv 5) pe_int (fun _ _ => rfl)) (fun σ H Q p xs v h1 h2 h3 q => ⟨_, h1, p, xs, _, v, rfl, rfl, h2, h3, q⟩) KA FLi bLi (hr.mono (by decide))) (pa_cons (pe_lineX (i := 5) (j := -1) (pe_ix ix_list (pv 5) (pe_un un_neg pe_int) (fun _ _ => rfl)) (fun σ H Q p xs v h1 h2 h3 q => ⟨_, h1, _, rfl, p, xs, _, v, rfl, rfl, h2, h3, q⟩) KA FLi bLi (hr.mono (by decide))) pa_nil))))
        (pss_cons (ps_if (pt_cmpR op_ne (pe_callR D_format_bookings.ok (hr.mono (by decide)) rfl D_format_bookings.at_ D_format_bookings.kp pass0 (pa_cons (pe_ix ix_list (pv 5) pe_int (fun _ _ => rfl)) (pa_cons (pe_ix ix_list (pv 5) (pe_un un_neg pe_int) (fun _ _ => rfl)) pa_nil))) (pe_join pe_str (pv 6)) (nomark _))
          (pss_one (ps_ret pe_bl)) pss_nil)
        (pss_one (ps_for PassesOwn.never rfl (pi_range1 rfl T.b.range (pa_cons pe_int pa_nil)) (pg_name (i := 7) scLaw.nd rfl (.inl rfl))
          (pss_cons (ps_set (i := 8) scLaw.nd rfl (.inr rfl) (pe_callR D__law_bent.ok (hr.mono (by decide)) rfl D__law_bent.at_ D__law_bent.kp pass0 (pa_cons (pv 1) (pa_cons (pv 4) pa_nil))))
          (C8.pss_cut (ps_set (i := 9) scLaw.nd rfl (.inl rfl) (pe_ifExp (pt_cmpR op_ne (pv 8) pe_str (nomark _)) (pe_lc (own := [("_law_line", 15)]) (g := gName 15) (tt := tYes) (te := (fun σ H Q => (tCons (tM1 rSplit (tVar 15) (tC (.str " "))) tNil) σ H fun vs H1 => (spLRead K) vs H1 Q E0)) rfl scLaw.nd (pi_list (pe_split (pv 8) pe_str)) (blkOk_by (N := nLaw) (sc := defScope sLaw) (by decide +kernel)) (fun _ _ _ _ _ => pg_name (i := 15) scLaw.nd rfl (.inl rfl)) (fun _ _ _ _ _ => by exact pts_nil) (fun _ _ _ _ _ => by exact (pe_callR D__law_read.ok (hr.mono (by decide)) rfl D__law_read.at_ D__law_read.kp pass0 (pa_cons (pe_split (pv 15) pe_str) pa_nil)))) (pe_lst pa_nil)))
          (pss_cons (ps_set (i := 10) scLaw.nd rfl (.inl rfl) (pe_outM (k := 9) (T := [(Pt, qLam)]) (tb := fun E => tLc (iList K (fun σ H Q => tCons (tVar 8) tNil σ H fun vs H1 => spParse K D e6 vs H1 Q E)) (gName 14) tYes (tPlan4 K D 14) [14]) FO atO kpO bO hCE NG B (hr.mono (by decide)) (by rfl) TB rfl hm hu rfl rfl (lamN_by (N := nLaw) (sc := defScope sLaw) (by decide +kernel)) (fun _ _ _ _ _ => rfl) (fun E f A outer s H c hr2 => by exact (pe_lc (own := [("_law_booking_here", 14)]) (g := gName 14) (tt := tYes) (te := tPlan4 K D 14) rfl scLaw.nd (pi_list (pe_callR (Ez := E) DXp.ok (hr2.mono (by decide)) rfl DXp.at_ DXp.kp (passes_call (takes_of rfl rfl rfl rfl) fun _ _ _ _ h => h) (pa_cons (pv 8) pa_nil))) (blkOk_by (N := nLaw) (sc := lamSc) (by decide +kernel)) (fun _ _ _ _ _ => pg_name (i := 14) scLaw.nd rfl (.inl rfl)) (fun _ _ _ _ _ => by exact pts_nil) (fun _ _ _ _ _ => by exact (pe_plan4 (pv 14) KA FPl bPl (hr2.mono (by decide)) (by rfl) B.list))))))
          (pss_one (ps_if (pt_cmpR (op_neD hr.units) (pv 10) (pe_ifExp (pt_cmpR (op_inD (room65 hr)) pe_non (pv 9) (by rfl)) (pe_tup (pa_cons pe_str (pa_cons (pe_bm PySem.F.plainAttrs_list PySem.F.slot_list_index PySem.F.type_list_index (mt_indexD (room65 hr)) (pv 9) (pa_cons pe_non pa_nil)) pa_nil))) (pe_tup (pa_cons pe_str (pa_cons (pv 9) pa_nil)))) (nomark _))
            (pss_one (ps_ret pe_bl)) pss_nil)))))))))))))))
      (pss_one (ps_ret (pe_and (pe_cmpR (op_eqD hr.units) (pe_callR D_parse_bookings.ok (hr.mono (by decide)) rfl D_parse_bookings.at_ D_parse_bookings.kp pass0 (pa_cons pe_str pa_nil)) (pe_lst pa_nil) (nomark _)) (pe_one (pe_cmpR op_eq (pe_callR0 D_format_bookings.ok (hr.mono (by decide)) rfl D_format_bookings.at_ D_format_bookings.kp pass0) pe_str (nomark _))))))), ?_⟩
    have tb0 : Tabs [(Pt, qLam)] H := fun p hp => by rw [List.mem_singleton.mp hp]; exact TabS.nil hPt
    refine ⟨_, rfl, a, ns, 42, rfl, hF, hlen, fun h l H1 _ _ s1 N1 => ?_⟩
    have T1 := Tabs.ext tb0 s1
    refine ⟨3, rfl, by decide, by decide, for_range (lo := 0) (n := 3) (fun i σ H' => ∃ (x2 x3 x4 x5 x6 x7 x8 x9 x10 : Option V), σ = [some (.ref a), some (.ref h), x2, x3, x4, x5, x6, x7, x8, x9, x10, none, none, none, none, none] ∧ NextAt H' h l ∧ Tabs [(Pt, qLam)] H')
      ⟨none, none, none, none, none, none, none, none, none, rfl, N1, T1⟩ ?_ ?_⟩
    · rintro i0 σ H2 hi0 ⟨x2, x3, x4, x5, x6, x7, x8, x9, x10, rfl, N2, T2⟩
      refine ⟨_, rfl, h, l, 4, rfl, N2, by decide, by decide, fun r H3 r0 r1 N3 b3 => ⟨_, _, rfl, rfl, ?_⟩⟩
      refine ⟨1 + r, rfl, by omega, by omega, draw_lc (h := h) (l := l) N3 rfl (by omega) rfl fun S H4 vs ks N4 b4 hS e4 pr4 lk => ?_⟩
      have T4 := tabs_draw (tabs_draw T2 b3 N2) b4 N3
      clear T2 N2 b3 b4 hS N3
      have lv := Paired.length pr4
      refine ⟨⟨_, rfl⟩, _, rfl, S, rfl, ⟨_, SqL.of e4⟩, line_lc e4 pr4 (by omega) rfl fun p5 H5 s5 hp5 e5 => ?_⟩
      have okk := ok_drawn pr4
      have kne : ks ≠ [] := fun z => by rw [z] at lk; have lk : 0 = (1 + r).toNat := lk; omega
      obtain ⟨t1, t2, t3, t4, t5⟩ := text_ok kne okk
      have l4 : ks.length ≤ 4 := by omega
      have l1 : 1 ≤ ks.length := by omega
      have tl4 := tot_lines okk
      have lok := lines_okS okk
      refine ⟨"\n", p5, ks.map lineB, rfl, rfl, .inl (SqL.of e5), join_sum (by decide +kernel) (by omega), ?_⟩
      refine ⟨_, rfl, textB ks, rfl, t2, by omega, fun _ q xs H6 s6 hq eF pr6 => ?_, fun k ws hk hn _ => ?_⟩
      rotate_left
      · rw [t4, List.getElem?_map] at hk
        obtain ⟨kk, hkk, rfl⟩ := Option.map_eq_some_iff.mp hk
        rw [readB_bk (okk kk (List.mem_of_getElem? hkk))] at hn
        exact nomatch hn
      rw [t4] at pr6
      have lx := Paired.length pr6
      rw [List.length_map] at lx
      have lr : (ks.map bWords).length ≤ 1000 := by rw [List.length_map]; omega
      refine ⟨_, rfl, q, rfl, ⟨_, SqL.of eF⟩, plan_lc eF pr6 lr rfl fun p7 H7 ws7 s7 hp7 e7 pr7 => ?_⟩
      have s47 := s5.trans (s6.trans s7)
      have e4' := s47 _ _ e4
      refine ⟨_, rfl, S, rfl, ⟨_, SqL.of e4'⟩, stps_lc e4' (Paired.mapP pr4 fun _ _ z => z.same s47) (by omega) rfl fun p8 H8 us8 s8 hp8 e8 pr8 => ?_⟩
      have l7 := Paired.length pr7
      rw [List.length_map] at l7
      have sm : SmD K H8 5 (.ref p7) (.ref p8) := sm_up (sm_up (.inr ⟨p7, p8, ws7, us8, rfl, rfl, by omega, sm_rows okk (Paired.mapP pr7 fun _ _ ⟨ss, z1, z2⟩ => ⟨ss, z1, z2.same s8⟩) pr8, .inl ⟨s8 _ _ e7, e8⟩⟩))
      refine ⟨_, _, rfl, sm, fun H9 s9 => ⟨_, rfl, ifF rfl ?_⟩⟩
      have sz := sizeLine_eq
      have s69 := s7.trans (s8.trans s9)
      have eF9 := s69 _ _ eF
      have pr9 := Paired.mapP pr6 fun _ _ z => z.same s69
      have tb : ∀ r ∈ ks.map bWords, tot r ≤ 1000 := fun r hr => by
        obtain ⟨kk, hkk, rfl⟩ := List.mem_map.mp hr
        have := tot_bk (okk kk hkk)
        omega
      have N9 := (N4.same s47).same (s8.trans s9)
      have T9 := (T4.ext s47).ext (s8.trans s9)
      clear sm s47 e4' s7 hp7 e7 pr7 s8 hp8 e8 pr8 s9 s5 s6 pr6 eF s69 e4 pr4 N4 T4 e5 hp5 hq
      refine ⟨_, rfl, q, rfl, ⟨_, SqL.of eF9⟩, lines2_lc eF9 pr9 lr tb rfl fun pA HA sA hpA eA => ?_⟩
      rw [show (ks.map bWords).map (Txt.join " ") = ks.map lineB from List.map_map ..] at eA
      refine ⟨_, rfl, ⟨_, rfl⟩, textB ks, _, rfl, rfl, by decide +kernel, by omega, fun m hm => ?_⟩
      have sB := same_upd (o := .lst ((Txt.split (textB ks) "\n").map V.str)) hm
      have eB := upd_same (H := HA) (a := m) (o := .lst ((Txt.split (textB ks) "\n").map V.str))
      rw [show Txt.split (textB ks) "\n" = ks.map lineB from t3] at eB sB ⊢
      refine ⟨.list ((ks.map lineB).map .str), .list ((ks.map lineB).map .str), .lst (SqL.of (sB _ _ eA)) (dp_strs _), .lst (SqL.of eB) (dp_strs _), strs_shaped lok, strs_shaped lok, _, rfl, ifF (by rw [strs_eqv]; simp) ?_⟩
      generalize upd HA m (.lst ((ks.map lineB).map V.str)) = HB at *
      have s9B := sA.trans sB
      have eFB := s9B _ _ eF9
      have prB := Paired.mapP pr9 fun _ _ z => z.same s9B
      have NB := N9.same s9B
      have TX := T9.ext s9B
      clear sA hpA eA hm sB eB N9 T9 pr9 eF9 s9B
      obtain ⟨xa, xb, ka, kb, s1', s2', mka, mkb, aa, ab, ba, bb⟩ := ends_B prB kne
      have ta := tot_bk (okk ka mka)
      have tb2 := tot_bk (okk kb mkb)
      refine ⟨q, xs, xa, _, s1', rfl, SqL.of eFB, aa, ba, by omega, q, xs, xb, _, s2', rfl, SqL.of eFB, ab, bb, by omega, by show 2 ≤ sizeLine; decide, fun pC hpC => ?_⟩
      have sC := same_upd (o := .lst [.str (lineB ka), .str (lineB kb)]) hpC
      have eC := upd_same (H := HB) (a := pC) (o := .lst [.str (lineB ka), .str (lineB kb)])
      generalize upd HB pC (.lst [.str (lineB ka), .str (lineB kb)]) = HC at *
      have eFC := sC _ _ eFB
      refine ⟨_, rfl, q, xs, _, _, rfl, rfl, SqL.of eFC, aa, _, rfl, _, rfl, q, xs, _, _, rfl, rfl, SqL.of eFC, ab, [bWords ka, bWords kb], .cons ⟨_, _, rfl, ba.same sC, by omega⟩ (.cons ⟨_, _, rfl, bb.same sC, by omega⟩ .nil), by show 2 ≤ 100; decide, fun HD sD => ?_⟩
      refine ⟨⟨_, rfl⟩, _, rfl, "\n", pC, [lineB ka, lineB kb], rfl, rfl, .inl (SqL.of (sD _ _ eC)), join_sum (by decide +kernel) ?_, rfl, _, rfl, ifF (congrArg (!·) (decide_eq_true rfl)) ?_⟩
      · have := tot_lines (ks := [ka, kb]) fun k hk => by
          rcases List.mem_cons.mp hk with z | z
          · exact z ▸ okk ka mka
          · exact (List.mem_singleton.mp z) ▸ okk kb mkb
        exact Nat.le_trans this (by show 2 * 101 ≤ 16777216; decide)
      have ND := (NB.same sC).same sD
      have TD := (TX.ext sC).ext sD
      clear sC sD eC eFC hpC NB TX ba bb prB aa ab eFB
      refine ⟨3, rfl, by decide, by decide, for_range (lo := 0) (n := 3) (fun i σ H' => ∃ (y7 y8 y9 y10 : Option V), σ = [some (.ref a), some (.ref h), some (.int (0 + (i0 : Int))), some (.ref S), some (.str (textB ks)), some (.ref q), some (.ref pC), y7, y8, y9, y10, none, none, none, none, none] ∧ NextAt H' h l ∧ Tabs [(Pt, qLam)] H')
        ⟨x7, x8, x9, x10, rfl, ND, TD⟩ ?_ ?_⟩
      · rintro i1 σ H20 hi1 ⟨y7, y8, y9, y10, rfl, N20, T20⟩
        refine ⟨_, rfl, _, rfl, h, l, textB ks, rfl, N20, t1, t2, by omega, fun u H21 N21 b21 ou tu lu => ?_⟩
        have T21 := tabs_draw T20 b21 N20
        refine ⟨fun σ H' => ∃ r9 ws, σ = [some (.ref a), some (.ref h), some (.int (0 + (i0 : Int))), some (.ref S), some (.str (textB ks)), some (.ref q), some (.ref pC), some (.int (0 + (i1 : Int))), some (.str u), some (.ref r9), y10, none, none, none, none, none] ∧ NextAt H' h l ∧ Tabs [(Pt, qLam)] H' ∧ H' r9 = some (.lst ws) ∧ Paired (RowO K H') ws ((rowsP u).map readB), ?_, ?_⟩
        · refine ⟨_, rfl, rfl, _, rfl, ?_⟩
          by_cases cu : u = ""
          · refine ifF (by rw [str_ne, decide_eq_true cu]; rfl) ⟨by show 0 ≤ sizeLine; decide, fun p hp => ?_⟩
            have sp := same_upd (o := .lst []) hp
            refine ⟨p, [], rfl, N21.same sp, T21.ext sp, upd_same, ?_⟩
            rw [show rowsP u = [] from if_pos cu]
            exact .nil
          · refine ifT (by rw [str_ne, decide_eq_false cu]; rfl) ⟨_, rfl, ⟨u, rfl⟩, u, _, rfl, rfl, by decide +kernel, by omega, fun m hm => ?_⟩
            have sm := same_upd (o := .lst ((Txt.split u "\n").map V.str)) hm
            have em := upd_same (H := H21) (a := m) (o := .lst ((Txt.split u "\n").map V.str))
            generalize upd H21 m (.lst ((Txt.split u "\n").map V.str)) = H22 at *
            have lt1 := (lines_tot u).1
            have lt2 := tot_len (lines u)
            refine ⟨m, rfl, ⟨_, SqL.of em⟩, rows_lc (lns := lines u) em (fun x hx => ⟨lineB_of ou tu x hx, by have := tot_mem hx; omega⟩) (by omega) rfl fun r9 H23 ws s23 hr9 e9 pr9 => ?_⟩
            refine ⟨r9, ws, rfl, (N21.same sm).same s23, (T21.ext sm).ext s23, e9, ?_⟩
            rw [show rowsP u = rowsT u from if_neg cu]
            unfold rowsT
            rw [List.map_map]
            exact pr9
        · rintro σ H22 ⟨r9, ws9, rfl, N22, T22, e9, pr9⟩
          refine ⟨T22, fun fa H23 hfa x23 T23 => ?_⟩
          have N23 := N22.extN x23
          have e23 := x23 _ _ e9 (fun _ z => nomatch z)
          have pr23 := Paired.mapP pr9 fun _ _ z => z.extN x23
          clear N22 e9 pr9 x23 T22 hfa
          have rsh := rows_shaped ((rowsP u).map readB)
          refine ⟨_, rfl, u, rfl, tu, by omega, fun hg q2 xs2 H24 s24 hq2 e24 pr24 => ?_, fun kk ws hk hn hf H24 d s24 hd => ?_⟩
          · have lru : (rowsP u).length ≤ 1000 := by
              have lt1 := (lines_tot u).1
              have lt2 := tot_len (lines u)
              unfold rowsP
              split
              · exact Nat.zero_le _
              · unfold rowsT
                rw [List.length_map]
                omega
            refine ⟨q2, rfl, ⟨_, SqL.of e24⟩, plan_lc e24 pr24 lru rfl fun p7 H25 ws7 s25 hp7 e25 pr25 => ⟨by show 2 ≤ sizeLine; decide, fun p10 hp10 => ?_⟩⟩
            have s26 := same_upd (o := .tup [.str "value", .ref p7]) hp10
            have e26 := upd_same (H := H25) (a := p10) (o := .tup [.str "value", .ref p7])
            generalize upd H25 p10 (.tup [.str "value", .ref p7]) = H26 at *
            have t23 := (s24.trans s25).trans s26
            have N26 := N23.same t23
            have T26 := T23.ext t23
            have e23' := t23 _ _ e23
            have pr23' := Paired.mapP pr23 fun _ _ z => z.same t23
            have pr26 := Paired.mapP (rows_of pr25) fun _ _ z => z.same s26
            refine ⟨_, rfl, _, rfl, .none, ((rowsP u).map readB).map rowD, .non, .lst (SqL.of e23') (rows_dp pr23'), by decide, rsh, _, rfl, ifF ?_ ?_⟩
            · rw [any_none]
              exact any_some hg
            refine ⟨_, rfl, by show 2 ≤ sizeLine; decide, fun p11 hp11 => ?_⟩
            have s27 := same_upd (o := .tup [.str "value", .ref r9]) hp11
            have e27 := upd_same (H := H26) (a := p11) (o := .tup [.str "value", .ref r9])
            generalize upd H26 p11 (.tup [.str "value", .ref r9]) = H27 at *
            refine ⟨valR ((rowsP u).map readB), valR ((rowsP u).map readB), .tup (SqT.of (s27 _ _ e26)) (.cons (.str _) (.cons (.lst (SqL.of (s27 _ _ (s26 _ _ e25))) (rows_dp (Paired.mapP pr26 fun _ _ z => z.same s27))) .nil)),
              .tup (SqT.of e27) (.cons (.str _) (.cons (.lst (SqL.of (s27 _ _ e23')) (rows_dp (Paired.mapP pr23' fun _ _ z => z.same s27))) .nil)), valR_shaped _, valR_shaped _, _, rfl, ifF (by rw [valR_eqv]; rfl) ?_⟩
            exact ⟨_, _, _, _, rfl, N26.same s27, T26.ext s27⟩
          · refine ⟨e6, "text", [.str "text", .int (kk : Nat)], rfl, KT, fun dd e => by cases e; exact ⟨_, upd_same⟩, .inr (.inl ⟨by decide +kernel, by decide +kernel, d, _, _, rfl, upd_same, rfl, rfl⟩), fun p10 H26 s26 e26 => ?_⟩
            have t23 := (s24.trans (same_upd (o := .xd [(("row" : Str), .int (kk : Nat))]) hd)).trans s26
            have N26 := N23.same t23
            have T26 := T23.ext t23
            have e23' := t23 _ _ e23
            have pr23' := Paired.mapP pr23 fun _ _ z => z.same t23
            have dp := rows_dp pr23'
            refine ⟨_, rfl, _, rfl, .none, ((rowsP u).map readB).map rowD, .non, .lst (SqL.of e23') dp, by decide, rsh, _, rfl, ifT ?_ ?_⟩
            · rw [any_none]
              exact any_at hk hn
            refine ⟨_, rfl, .inl ⟨rfl, _, SqL.of e23'⟩, r9, .non, .none, ((rowsP u).map readB).map rowD, kk, .none, rfl, rfl, .lst (SqL.of e23') dp, .non, rsh, by decide, ?_, by decide, ?_, by show 2 ≤ sizeLine; decide, fun p11 hp11 => ?_⟩
            · rw [List.getElem?_map, List.getElem?_map, hk]
              show some (rowD (readB ws)) = _
              rw [hn]
              rfl
            · intro m z' hm hz
              rw [List.getElem?_map, List.getElem?_map] at hz
              obtain ⟨o, ho, rfl⟩ := Option.map_eq_some_iff.mp hz
              obtain ⟨ws', hw', rfl⟩ := Option.map_eq_some_iff.mp ho
              rw [rowD_none]
              exact Option.isNone_eq_false_iff.mpr (Option.isSome_iff_ne_none.mpr (hf m ws' hm hw'))
            have s27 := same_upd (o := .tup [.str "text", .int (kk : Nat)]) hp11
            have e27 := upd_same (H := H26) (a := p11) (o := .tup [.str "text", .int (kk : Nat)])
            generalize upd H26 p11 (.tup [.str "text", .int (kk : Nat)]) = H27 at *
            refine ⟨txtR kk, txtR kk, .tup (SqT.of (s27 _ _ e26)) (.cons (.str _) (.cons (.int _) .nil)), .tup (SqT.of e27) (.cons (.str _) (.cons (.int _) .nil)), txtR_shaped _, txtR_shaped _, _, rfl, ifF (by rw [txtR_eqv]; rfl) ?_⟩
            exact ⟨_, _, _, _, rfl, N26.same s27, T26.ext s27⟩
      · rintro σ H20 ⟨y7, y8, y9, y10, rfl, N20, T20⟩
        exact ⟨_, _, _, _, _, _, _, _, _, rfl, N20, T20⟩
    · rintro σ H2 ⟨x2, x3, x4, x5, x6, x7, x8, x9, x10, rfl, N2, T2⟩
      have er : rowsP "" = [] := if_pos rfl
      refine ⟨Str.ofString "", rfl, ?_, by decide +kernel, fun _ q xs H3 s3 hq eq pr => ?_, fun k ws hk _ _ => ?_⟩
      · have := (textOk_join (cs := []) (fun _ h => nomatch h)).2
        rw [join_nil] at this
        exact this
      · rw [er] at pr
        cases pr
        refine ⟨by show 0 ≤ sizeLine; decide, fun m hm => ⟨.list [], .list [], .lst (SqL.of ((same_upd hm) _ _ eq)) .nil, .lst (SqL.of upd_same) .nil, by decide, by decide, ?_⟩⟩
        refine ⟨_, rfl, ifT rfl ⟨[], .nil, by decide, fun H4 s4 => ⟨rfl, ?_⟩⟩⟩
        have e : decide (V.str (Txt.join "\n" (([] : List (List Str)).map (Txt.join " "))) = V.str "") = true := decide_eq_true (congrArg V.str (join_nil _))
        rw [e]
        exact k _
      · rw [er] at hk
        exact nomatch hk
end
end Cc

/-! How the row's end takes Series' keywords; promises that may raise without context. -/
namespace Cc
open PySem PySem.Spec PyProof.Rows L2
theorem isCls_some {K : PySem.W.Frag} {C : Addr} (h : PySem.W.isClsIn K C = true) : ∃ cd, PySem.W.clsIn K C = some cd := by
  unfold PySem.W.isClsIn at h
  exact Option.isSome_iff_exists.mp h
theorem dnn_mk {P : Program} {w : World} {K : PySem.W.Frag} {mg : Str → Option Value} {base : Heap} {k : Nat} {x : Str} {f : Addr} {fd : FuncData} {ps : List Str} {sp : Sp} (a : mg x = some (.ref f)) (kp : PySem.W.keepIn K (.ref f) = true) (F : FnOk P w K mg base (L2N.CX P w) k f fd ps sp) (b : Binds K fd ps []) :
    DnN P w K mg base k x f sp := ⟨(F.raw b .nil).imp fun vs H Q E h => by rw [List.append_nil]; exact h, a, kp⟩
abbrev serFn (D : Addr) (doc pm : Value) (an : Option Addr) (cda : Addr) (ct : Value) (cc : Addr) : FuncData := PySem.W.ksFn "__init__" "Series.__init__" (defArgs s_Series___init__) (defBody s_Series___init__) (defScope s_Series___init__) .none (.ref D) doc pm an (.ref cda) ct cc
theorem kbn_times {K : PySem.W.Frag} {D cda cc : Addr} {doc pm ct : Value} {an : Option Addr} {t : Tok} (ns : PySem.W.nsIn K D "more" = some (some (.int 0 t))) : KBn K (serFn D doc pm an cda ct cc) ["self", "room", "need", "times", "more"] 3 ["times"] (fun us ws => us ++ (ws ++ [.int 0 t])) (fun vs zs => vs ++ (zs ++ [.int 0])) :=
  ⟨fun s us ws X l1 l2 => BindsTo.of_looks fun M => KwChain.looks (D := D) (l := [("more", .int 0 t)]) X (fun q hq => by rw [List.mem_singleton.mp hq]; exact ns) (match us, ws, l1, l2 with | [a, b, c], [z], _, _ => ⟨_, _, _, _, _, _, rfl, rfl, rfl⟩), fun r1 r2 => r1.append (r2.append (.cons ⟨t, rfl⟩ .nil))⟩
theorem kbn_more {K : PySem.W.Frag} {D cda cc : Addr} {doc pm ct : Value} {an : Option Addr} : KBn K (serFn D doc pm an cda ct cc) ["self", "room", "need", "times", "more"] 3 ["times", "more"] (fun us ws => us ++ ws) (fun vs zs => vs ++ zs) :=
  ⟨fun s us ws X l1 l2 => match us, ws, l1, l2 with | [a, b, c], [z, y], _, _ => .of_eq rfl, fun r1 r2 => r1.append r2⟩
end Cc

namespace Cc
open PySem PySem.Spec PyProof.Rows L2
open LamX
theorem dn_mk {P : Program} {w : World} {K : PySem.W.Frag} {mg : Str → Option Value} {base : Heap} {k : Nat} {x : Str} {f : Addr} {fd : FuncData} {ps : List Str} {sp : Sp} (a : mg x = some (.ref f)) (kp : PySem.W.keepIn K (.ref f) = true) (F : FnOk P w K mg base CX0 k f fd ps sp) (b : Binds K fd ps []) :
    Dn P w K mg base k x f sp := ⟨a, kp, (F.raw b .nil).imp fun vs H Q E h => by rw [List.append_nil]; exact h⟩
theorem dnx_mk {P : Program} {w : World} {K : PySem.W.Frag} {mg : Str → Option Value} {base : Heap} {k : Nat} {x : Str} {f : Addr} {fd : FuncData} {ps : List Str} {sp : Sp} (a : mg x = some (.ref f)) (kp : PySem.W.keepIn K (.ref f) = true) (F : FnOk P w K mg base (L2.CX P w) k f fd ps sp) (b : Binds K fd ps []) :
    DnX P w K mg base k x f sp := ⟨a, kp, (F.raw b .nil).imp fun vs H Q E h => by rw [List.append_nil]; exact h⟩
theorem all_mk {P : Program} {w : World} {K : PySem.W.Frag} {h : Heap} {mg : Str → Option Value} {fa C TU pS f_is_whole f_is_number f__law_mix f__law_next f__law_alike f_integer_in f_word_of f__law_booking f__law_number f__law_read f__law_bent f_parse_bookings f_law cL PT f__law_outcome f_check_meeting f_check_meeting_count f_booking_in fminit fmjoined EInvalidBooking EInvalidText BInvalidText fIInvalidText ccInvalidText cdaInvalidText NInvalidText fmst : Addr} (X : K.In h) (G : h.Ns mainGlobals mg) (hfa : mg "law" = some (.ref fa))
    {od_is_whole an_is_whole od_is_number an_is_number od__law_mix an__law_mix od__law_next an__law_next od__law_alike an__law_alike od_integer_in an_integer_in od_word_of an_word_of od__law_booking an__law_booking od__law_number an__law_number od__law_read an__law_read od__law_bent an__law_bent od_parse_bookings an_parse_bookings od_law an_law dC od__law_outcome an__law_outcome od_check_meeting an_check_meeting od_check_meeting_count an_check_meeting_count od_booking_in an_booking_in odminit anminit odmjoined anmjoined odInvalidText anInvalidText cldInvalidText cddInvalidText ddInvalidText odmst anmst dT : Option Addr} {sl_is_whole sl_is_number sl__law_mix sl__law_next sl__law_alike sl_integer_in sl_word_of sl__law_booking sl__law_number sl__law_read sl__law_bent sl_parse_bookings sl_law slC sl__law_outcome sl_check_meeting sl_check_meeting_count sl_booking_in slminit slmjoined slInvalidText cslInvalidText ccsInvalidText slmst slT : Array (Option Value)} {oc_is_whole kV_is_whole dc_is_whole pm_is_whole cd_is_whole ct_is_whole oc_is_number kV_is_number dc_is_number pm_is_number cd_is_number ct_is_number oc__law_mix kV__law_mix dc__law_mix pm__law_mix cd__law_mix ct__law_mix oc__law_next kV__law_next dc__law_next pm__law_next cd__law_next ct__law_next oc__law_alike kV__law_alike dc__law_alike pm__law_alike cd__law_alike ct__law_alike oc_integer_in kV_integer_in dc_integer_in pm_integer_in cd_integer_in ct_integer_in oc_word_of kV_word_of dc_word_of pm_word_of cd_word_of ct_word_of oc__law_booking kV__law_booking dc__law_booking pm__law_booking cd__law_booking ct__law_booking oc__law_number kV__law_number dc__law_number pm__law_number cd__law_number ct__law_number oc__law_read kV__law_read dc__law_read pm__law_read cd__law_read ct__law_read oc__law_bent kV__law_bent dc__law_bent pm__law_bent cd__law_bent ct__law_bent oc_parse_bookings kV_parse_bookings dc_parse_bookings pm_parse_bookings cd_parse_bookings ct_parse_bookings oc_law kV_law dc_law pm_law ct_law oC oc__law_outcome kV__law_outcome dc__law_outcome pm__law_outcome cd__law_outcome ct__law_outcome oc_check_meeting kV_check_meeting dc_check_meeting pm_check_meeting cd_check_meeting ct_check_meeting oc_check_meeting_count kV_check_meeting_count dc_check_meeting_count pm_check_meeting_count cd_check_meeting_count ct_check_meeting_count oc_booking_in kV_booking_in dc_booking_in pm_booking_in cd_booking_in ct_booking_in ocminit kVminit dcminit pmminit cdminit ctminit ocmjoined kVmjoined dcmjoined pmmjoined cdmjoined ctmjoined ocInvalidText kVInvalidText dcInvalidText pmInvalidText ctInvalidText clInvalidText cclInvalidText ocmst kVmst dcmst pmmst cdmst ctmst : Value} {rs : List Value} {t1 t2 t3 t4 t_DIGITS t_LONG_PART t_MAX_MEETINGS : Tok} {nT : Nat} {vC  : Array Value} {nmInvalidText qInvalidText t1InvalidText t2InvalidText fileInvalidText : Str} {bsInvalidText subInvalidText : List Value} {snInvalidText : List Str} {abInvalidText : Bool} {colInvalidText : Option Bool} {m0InvalidText m1InvalidText m2InvalidText m3InvalidText m5InvalidText : Option Value} {vsInvalidText : Array Value} {tkInvalidText : Tok} {p1InvalidText p2InvalidText a1InvalidText a2InvalidText a3InvalidText a4InvalidText a5InvalidText a6InvalidText a7InvalidText a8InvalidText a9InvalidText a10InvalidText b1InvalidText b2InvalidText b3InvalidText b4InvalidText : Pos} {CMe CSe CAl CTu fbi CBo fpl fln fsc Psc Pln e9DaybookError e9DecodeError e9InvalidNumber e9InvalidOperation e9InvalidPlan e9NotEnough e9TooFewChairs CE f_format_bookings : Addr} {odbi anbi odpl anpl odln anln od_format_bookings an_format_bookings : Option Addr} {slbi slpl slln sl_format_bookings : Array (Option Value)} {ocbi kVbi dcbi pmbi cdbi ctbi ocpl kVpl dcpl pmpl cdpl ctpl ocln kVln dcln pmln cdln ctln oc_format_bookings kV_format_bookings dc_format_bookings pm_format_bookings cd_format_bookings ct_format_bookings : Value} {rssc rsln : List Value} {tkmo : Tok} {fmi ccmi cdami fsi ccsi cdasi kDsi fai ccai cdaai fti ccti cdati : Addr} {odmi anmi cldmi cddmi odsi ansi cldsi cddsi odai anai cldai cddai odti anti cldti cddti : Option Addr} {slmi cslmi ccsmi slsi cslsi ccssi slai cslai ccsai slti cslti ccsti : Array (Option Value)} {ocmi dcmi pmmi ctmi clmi cclmi kVmi ocsi dcsi pmsi ctsi clsi cclsi ocai dcai pmai ctai clai cclai kVai octi dcti pmti ctti clti cclti kVti : Value} {vsmi vssi vsai vsti : Array Value} {tfmi tfsi tfai tfti : Tok} {filemi filesi fileai fileti : Str}
    (a_is_whole : PySem.W.nsIn K mainGlobals "is_whole" = some (some (.ref f_is_whole)))
    (l_is_whole : K.lookup f_is_whole = some ⟨oc_is_whole, od_is_whole, .func (PySem.W.fnOf "is_whole" "is_whole" (defArgs sIsWhole) (defBody sIsWhole) (defScope sIsWhole) .none kV_is_whole dc_is_whole pm_is_whole an_is_whole cd_is_whole ct_is_whole), sl_is_whole⟩)
    (c_is_whole : PySem.W.codeIn K cd_is_whole "is_whole" = true)
    (k_is_whole : PySem.W.keepIn K (.ref f_is_whole) = true)
    (a_is_number : PySem.W.nsIn K mainGlobals "is_number" = some (some (.ref f_is_number)))
    (l_is_number : K.lookup f_is_number = some ⟨oc_is_number, od_is_number, .func (PySem.W.fnOf "is_number" "is_number" (defArgs sIsNum) (defBody sIsNum) (defScope sIsNum) .none kV_is_number dc_is_number pm_is_number an_is_number cd_is_number ct_is_number), sl_is_number⟩)
    (c_is_number : PySem.W.codeIn K cd_is_number "is_number" = true)
    (k_is_number : PySem.W.keepIn K (.ref f_is_number) = true)
    (a__law_mix : PySem.W.nsIn K mainGlobals "_law_mix" = some (some (.ref f__law_mix)))
    (l__law_mix : K.lookup f__law_mix = some ⟨oc__law_mix, od__law_mix, .func (PySem.W.fnOf "_law_mix" "_law_mix" (defArgs s__law_mix) (defBody s__law_mix) (defScope s__law_mix) .none kV__law_mix dc__law_mix pm__law_mix an__law_mix cd__law_mix ct__law_mix), sl__law_mix⟩)
    (c__law_mix : PySem.W.codeIn K cd__law_mix "_law_mix" = true)
    (k__law_mix : PySem.W.keepIn K (.ref f__law_mix) = true)
    (a__law_next : PySem.W.nsIn K mainGlobals "_law_next" = some (some (.ref f__law_next)))
    (l__law_next : K.lookup f__law_next = some ⟨oc__law_next, od__law_next, .func (PySem.W.fnOf "_law_next" "_law_next" (defArgs s__law_next) (defBody s__law_next) (defScope s__law_next) .none kV__law_next dc__law_next pm__law_next an__law_next cd__law_next ct__law_next), sl__law_next⟩)
    (c__law_next : PySem.W.codeIn K cd__law_next "_law_next" = true)
    (k__law_next : PySem.W.keepIn K (.ref f__law_next) = true)
    (a__law_alike : PySem.W.nsIn K mainGlobals "_law_alike" = some (some (.ref f__law_alike)))
    (l__law_alike : K.lookup f__law_alike = some ⟨oc__law_alike, od__law_alike, .func (PySem.W.fnOf "_law_alike" "_law_alike" (defArgs sAlike) (defBody sAlike) (defScope sAlike) .none kV__law_alike dc__law_alike pm__law_alike an__law_alike cd__law_alike ct__law_alike), sl__law_alike⟩)
    (c__law_alike : PySem.W.codeIn K cd__law_alike "_law_alike" = true)
    (k__law_alike : PySem.W.keepIn K (.ref f__law_alike) = true)
    (a_integer_in : PySem.W.nsIn K mainGlobals "integer_in" = some (some (.ref f_integer_in)))
    (l_integer_in : K.lookup f_integer_in = some ⟨oc_integer_in, od_integer_in, .func (PySem.W.fnOf "integer_in" "integer_in" (defArgs s_integer_in) (defBody s_integer_in) (defScope s_integer_in) .none kV_integer_in dc_integer_in pm_integer_in an_integer_in cd_integer_in ct_integer_in), sl_integer_in⟩)
    (c_integer_in : PySem.W.codeIn K cd_integer_in "integer_in" = true)
    (k_integer_in : PySem.W.keepIn K (.ref f_integer_in) = true)
    (a_word_of : PySem.W.nsIn K mainGlobals "word_of" = some (some (.ref f_word_of)))
    (l_word_of : K.lookup f_word_of = some ⟨oc_word_of, od_word_of, .func (PySem.W.fnOf "word_of" "word_of" (defArgs s_word_of) (defBody s_word_of) (defScope s_word_of) .none kV_word_of dc_word_of pm_word_of an_word_of cd_word_of ct_word_of), sl_word_of⟩)
    (c_word_of : PySem.W.codeIn K cd_word_of "word_of" = true)
    (k_word_of : PySem.W.keepIn K (.ref f_word_of) = true)
    (a__law_booking : PySem.W.nsIn K mainGlobals "_law_booking" = some (some (.ref f__law_booking)))
    (l__law_booking : K.lookup f__law_booking = some ⟨oc__law_booking, od__law_booking, .func (PySem.W.fnOf "_law_booking" "_law_booking" (defArgs s__law_booking) (defBody s__law_booking) (defScope s__law_booking) .none kV__law_booking dc__law_booking pm__law_booking an__law_booking cd__law_booking ct__law_booking), sl__law_booking⟩)
    (c__law_booking : PySem.W.codeIn K cd__law_booking "_law_booking" = true)
    (k__law_booking : PySem.W.keepIn K (.ref f__law_booking) = true)
    (a__law_number : PySem.W.nsIn K mainGlobals "_law_number" = some (some (.ref f__law_number)))
    (l__law_number : K.lookup f__law_number = some ⟨oc__law_number, od__law_number, .func (PySem.W.fnOf "_law_number" "_law_number" (defArgs s__law_number) (defBody s__law_number) (defScope s__law_number) .none kV__law_number dc__law_number pm__law_number an__law_number cd__law_number ct__law_number), sl__law_number⟩)
    (c__law_number : PySem.W.codeIn K cd__law_number "_law_number" = true)
    (k__law_number : PySem.W.keepIn K (.ref f__law_number) = true)
    (a__law_read : PySem.W.nsIn K mainGlobals "_law_read" = some (some (.ref f__law_read)))
    (l__law_read : K.lookup f__law_read = some ⟨oc__law_read, od__law_read, .func (PySem.W.fnOf "_law_read" "_law_read" (defArgs s__law_read) (defBody s__law_read) (defScope s__law_read) .none kV__law_read dc__law_read pm__law_read an__law_read cd__law_read ct__law_read), sl__law_read⟩)
    (c__law_read : PySem.W.codeIn K cd__law_read "_law_read" = true)
    (k__law_read : PySem.W.keepIn K (.ref f__law_read) = true)
    (a__law_bent : PySem.W.nsIn K mainGlobals "_law_bent" = some (some (.ref f__law_bent)))
    (l__law_bent : K.lookup f__law_bent = some ⟨oc__law_bent, od__law_bent, .func (PySem.W.fnOf "_law_bent" "_law_bent" (defArgs s__law_bent) (defBody s__law_bent) (defScope s__law_bent) .none kV__law_bent dc__law_bent pm__law_bent an__law_bent cd__law_bent ct__law_bent), sl__law_bent⟩)
    (c__law_bent : PySem.W.codeIn K cd__law_bent "_law_bent" = true)
    (k__law_bent : PySem.W.keepIn K (.ref f__law_bent) = true)
    (a_parse_bookings : PySem.W.nsIn K mainGlobals "parse_bookings" = some (some (.ref f_parse_bookings)))
    (l_parse_bookings : K.lookup f_parse_bookings = some ⟨oc_parse_bookings, od_parse_bookings, .func (PySem.W.fnOf "parse_bookings" "parse_bookings" (defArgs s_parse_bookings) (defBody s_parse_bookings) (defScope s_parse_bookings) .none kV_parse_bookings dc_parse_bookings pm_parse_bookings an_parse_bookings cd_parse_bookings ct_parse_bookings), sl_parse_bookings⟩)
    (c_parse_bookings : PySem.W.codeIn K cd_parse_bookings "parse_bookings" = true)
    (k_parse_bookings : PySem.W.keepIn K (.ref f_parse_bookings) = true)
    (a_law : PySem.W.nsIn K mainGlobals "law" = some (some (.ref f_law)))
    (l_law : K.lookup f_law = some ⟨oc_law, od_law, .func (PySem.W.fnOf "law" "law" (defArgs sLaw) (defBody sLaw) (defScope sLaw) .none kV_law dc_law pm_law an_law (.ref cL) ct_law), sl_law⟩)
    (c_law : PySem.W.codeIn K (.ref cL) "law" = true)
    (lC : K.lookup cL = some ⟨oC, dC, .fields vC, slC⟩)
    (v11 : vC[11]? = some (.ref PT))
    (tN : K.lookup PT = none)
    (k_law : PySem.W.keepIn K (.ref f_law) = true)
    (a__law_outcome : PySem.W.nsIn K mainGlobals "_law_outcome" = some (some (.ref f__law_outcome)))
    (l__law_outcome : K.lookup f__law_outcome = some ⟨oc__law_outcome, od__law_outcome, .func (PySem.W.fnOf "_law_outcome" "_law_outcome" (defArgs sOutcome) (defBody sOutcome) (defScope sOutcome) .none kV__law_outcome dc__law_outcome pm__law_outcome an__law_outcome cd__law_outcome ct__law_outcome), sl__law_outcome⟩)
    (c__law_outcome : PySem.W.codeIn K cd__law_outcome "_law_outcome" = true)
    (k__law_outcome : PySem.W.keepIn K (.ref f__law_outcome) = true)
    (a_check_meeting : PySem.W.nsIn K mainGlobals "check_meeting" = some (some (.ref f_check_meeting)))
    (l_check_meeting : K.lookup f_check_meeting = some ⟨oc_check_meeting, od_check_meeting, .func (PySem.W.fnOf "check_meeting" "check_meeting" (defArgs s_check_meeting) (defBody s_check_meeting) (defScope s_check_meeting) .none kV_check_meeting dc_check_meeting pm_check_meeting an_check_meeting cd_check_meeting ct_check_meeting), sl_check_meeting⟩)
    (c_check_meeting : PySem.W.codeIn K cd_check_meeting "check_meeting" = true)
    (k_check_meeting : PySem.W.keepIn K (.ref f_check_meeting) = true)
    (a_check_meeting_count : PySem.W.nsIn K mainGlobals "check_meeting_count" = some (some (.ref f_check_meeting_count)))
    (l_check_meeting_count : K.lookup f_check_meeting_count = some ⟨oc_check_meeting_count, od_check_meeting_count, .func (PySem.W.fnOf "check_meeting_count" "check_meeting_count" (defArgs s_check_meeting_count) (defBody s_check_meeting_count) (defScope s_check_meeting_count) .none kV_check_meeting_count dc_check_meeting_count pm_check_meeting_count an_check_meeting_count cd_check_meeting_count ct_check_meeting_count), sl_check_meeting_count⟩)
    (c_check_meeting_count : PySem.W.codeIn K cd_check_meeting_count "check_meeting_count" = true)
    (k_check_meeting_count : PySem.W.keepIn K (.ref f_check_meeting_count) = true)
    (a_booking_in : PySem.W.nsIn K mainGlobals "booking_in" = some (some (.ref f_booking_in)))
    (l_booking_in : K.lookup f_booking_in = some ⟨oc_booking_in, od_booking_in, .func (PySem.W.fnOf "booking_in" "booking_in" (defArgs s_booking_in) (defBody s_booking_in) (defScope s_booking_in) .none kV_booking_in dc_booking_in pm_booking_in an_booking_in cd_booking_in ct_booking_in), sl_booking_in⟩)
    (c_booking_in : PySem.W.codeIn K cd_booking_in "booking_in" = true)
    (k_booking_in : PySem.W.keepIn K (.ref f_booking_in) = true)
    (aC : PySem.W.nsIn K mainGlobals "Plan" = some (some (.ref C)))
    (aminit : PySem.W.findIn K (.ref C) "__init__" = some (some (.ref fminit)))
    (iminit : PySem.W.isFn K (.ref fminit) = true)
    (lminit : K.lookup fminit = some ⟨ocminit, odminit, .func (PySem.W.fnOf "__init__" "Plan.__init__" (defArgs sInit) (defBody sInit) (defScope sInit) .none kVminit dcminit pmminit anminit cdminit ctminit), slminit⟩)
    (cminit : PySem.W.codeIn K cdminit "Plan.__init__" = true)
    (kminit : PySem.W.keepIn K (.ref fminit) = true)
    (amjoined : PySem.W.findIn K (.ref C) "joined" = some (some (.ref fmjoined)))
    (imjoined : PySem.W.isFn K (.ref fmjoined) = true)
    (lmjoined : K.lookup fmjoined = some ⟨ocmjoined, odmjoined, .func (PySem.W.fnOf "joined" "Plan.joined" (defArgs sJoined) (defBody sJoined) (defScope sJoined) .none kVmjoined dcmjoined pmmjoined anmjoined cdmjoined ctmjoined), slmjoined⟩)
    (cmjoined : PySem.W.codeIn K cdmjoined "Plan.joined" = true)
    (kmjoined : PySem.W.keepIn K (.ref fmjoined) = true)
    (gInvalidBooking : PySem.W.nsIn K mainGlobals "InvalidBooking" = some (some (.ref EInvalidBooking)))
    (xInvalidBooking : PySem.W.excIn K EInvalidBooking [.type "ValueError", .type "Exception", .type "BaseException", .type "object"] "ValueError.__new__" = true)
    (kInvalidBooking : PySem.W.keepIn K (.ref EInvalidBooking) = true)
    (bInvalidBooking : PySem.W.subIn K (.ref EInvalidBooking) (.type "BaseException") = some true)
    (tInvalidBooking : PySem.W.typeIn K (.ref EInvalidBooking) = some (.type "type"))
    (iInvalidBooking : PySem.W.isClsIn K EInvalidBooking = true)
    (sInvalidBooking : PySem.W.subIn K (.ref EInvalidBooking) (.ref EInvalidBooking) = some true)
    (nInvalidBooking : PySem.W.subIn K (.ref EInvalidBooking) (.type "StopIteration") = some false)
    (gInvalidText : PySem.W.nsIn K mainGlobals "InvalidText" = some (some (.ref EInvalidText)))
    (xInvalidText : K.lookup EInvalidText = some (excClassObj nmInvalidText qInvalidText EInvalidText NInvalidText bsInvalidText [.ref BInvalidText, .type "ValueError", .type "Exception", .type "BaseException", .type "object"] true snInvalidText subInvalidText abInvalidText colInvalidText ddInvalidText m0InvalidText m1InvalidText m2InvalidText m3InvalidText m5InvalidText "ValueError.__new__"))
    (kInvalidText : PySem.W.keepIn K (.ref EInvalidText) = true)
    (saInvalidText : PySem.W.findIn K (.ref EInvalidText) "__setattr__" = some (some (.builtin "object.__setattr__")))
    (gaInvalidText : PySem.W.findIn K (.ref EInvalidText) "__getattribute__" = some (some (.builtin "BaseException.__getattribute__")))
    (ggInvalidText : PySem.W.findIn K (.ref EInvalidText) "__getattr__" = some none)
    (nbInvalidText : PySem.W.findIn K (.ref EInvalidText) "row" = some none)
    (iInvalidText : PySem.W.findIn K (.ref EInvalidText) "__init__" = some (some (.ref fIInvalidText)))
    (tfInvalidText : PySem.W.typeIn K (.ref fIInvalidText) = some (.type "function"))
    (bInvalidText : PySem.W.subIn K (.ref EInvalidText) (.type "BaseException") = some true)
    (tInvalidText : PySem.W.typeIn K (.ref EInvalidText) = some (.type "type"))
    (hdInvalidText : PySem.W.hasDictIn K EInvalidText = true)
    (icInvalidText : PySem.W.isClsIn K EInvalidText = true)
    (sInvalidText : PySem.W.subIn K (.ref EInvalidText) (.ref EInvalidText) = some true)
    (svInvalidText : PySem.W.subIn K (.ref EInvalidText) (.type "ValueError") = some true)
    (suInvalidText : PySem.W.ks_superIn K EInvalidText EInvalidText "__init__" = some (some (.builtin "ValueError.__init__")))
    (opInvalidText : PySem.W.nsIn K cStatics "thirdparty.any" = some none)
    (zsInvalidText : PySem.W.nsIn K mainGlobals "super" = some none)
    (htInvalidText : (P.main.scope.names.lookup ("super" : Str)).isSome = false)
    (lInvalidText : K.lookup fIInvalidText = some ⟨ocInvalidText, odInvalidText, .func (PySem.W.ksFn "__init__" "InvalidText.__init__" (PySem.ErX.iA p1InvalidText p2InvalidText) (PySem.ErX.iB t1InvalidText t2InvalidText a1InvalidText a2InvalidText a3InvalidText a4InvalidText a5InvalidText a6InvalidText a7InvalidText a8InvalidText a9InvalidText a10InvalidText b1InvalidText b2InvalidText b3InvalidText b4InvalidText) PySem.ErX.iS .none kVInvalidText dcInvalidText pmInvalidText anInvalidText (.ref cdaInvalidText) ctInvalidText ccInvalidText), slInvalidText⟩)
    (cInvalidText : PySem.W.codeIn K (.ref cdaInvalidText) "InvalidText.__init__" = true)
    (lcInvalidText : K.lookup ccInvalidText = some ⟨clInvalidText, cldInvalidText, .cell (some (.ref EInvalidText)), cslInvalidText⟩)
    (ldInvalidText : K.lookup cdaInvalidText = some ⟨cclInvalidText, cddInvalidText, .fields vsInvalidText, ccsInvalidText⟩)
    (vfInvalidText : vsInvalidText[2]? = some (.str fileInvalidText tkInvalidText))
    (fiInvalidText : ((P.main.file : Str) == fileInvalidText) = true)
    (u1InvalidText : t1InvalidText.length ≤ 1000)
    (u2InvalidText : t2InvalidText.length ≤ 1000)
    (lnInvalidText : (a3InvalidText.endLine == a9InvalidText.line) = true)
    (aMe : PySem.W.nsIn K mainGlobals "Meeting" = some (some (.ref CMe)))
    (pgMe : PySem.W.plainGet K CMe Str.empty = true)
    (hdMe : PySem.W.hasDictIn K CMe = true)
    (poMe : PySem.W.plainOver K CMe = true)
    (saMe : PySem.W.findIn K (.ref CMe) "__setattr__" = some (some (.builtin "object.__setattr__")))
    (mkMe : PySem.W.makesIn K CMe = true)
    (kcMe : PySem.W.keepIn K (.ref CMe) = true)
    (nMe0 : PySem.W.findIn K (.ref CMe) "line_words" = some none)
    (nMe1 : PySem.W.findIn K (.ref CMe) "booked_steps" = some none)
    (aSe : PySem.W.nsIn K mainGlobals "Series" = some (some (.ref CSe)))
    (pgSe : PySem.W.plainGet K CSe Str.empty = true)
    (hdSe : PySem.W.hasDictIn K CSe = true)
    (poSe : PySem.W.plainOver K CSe = true)
    (saSe : PySem.W.findIn K (.ref CSe) "__setattr__" = some (some (.builtin "object.__setattr__")))
    (mkSe : PySem.W.makesIn K CSe = true)
    (kcSe : PySem.W.keepIn K (.ref CSe) = true)
    (nSe0 : PySem.W.findIn K (.ref CSe) "line_words" = some none)
    (nSe1 : PySem.W.findIn K (.ref CSe) "booked_steps" = some none)
    (aAl : PySem.W.nsIn K mainGlobals "Alternation" = some (some (.ref CAl)))
    (pgAl : PySem.W.plainGet K CAl Str.empty = true)
    (hdAl : PySem.W.hasDictIn K CAl = true)
    (poAl : PySem.W.plainOver K CAl = true)
    (saAl : PySem.W.findIn K (.ref CAl) "__setattr__" = some (some (.builtin "object.__setattr__")))
    (mkAl : PySem.W.makesIn K CAl = true)
    (kcAl : PySem.W.keepIn K (.ref CAl) = true)
    (nAl0 : PySem.W.findIn K (.ref CAl) "line_words" = some none)
    (nAl1 : PySem.W.findIn K (.ref CAl) "booked_steps" = some none)
    (aTu : PySem.W.nsIn K mainGlobals "Turning" = some (some (.ref CTu)))
    (pgTu : PySem.W.plainGet K CTu Str.empty = true)
    (hdTu : PySem.W.hasDictIn K CTu = true)
    (poTu : PySem.W.plainOver K CTu = true)
    (saTu : PySem.W.findIn K (.ref CTu) "__setattr__" = some (some (.builtin "object.__setattr__")))
    (mkTu : PySem.W.makesIn K CTu = true)
    (kcTu : PySem.W.keepIn K (.ref CTu) = true)
    (nTu0 : PySem.W.findIn K (.ref CTu) "line_words" = some none)
    (nTu1 : PySem.W.findIn K (.ref CTu) "booked_steps" = some none)
    (icMe : PySem.W.isClsIn K CMe = true)
    (icSe : PySem.W.isClsIn K CSe = true)
    (icAl : PySem.W.isClsIn K CAl = true)
    (icTu : PySem.W.isClsIn K CTu = true)
    (aBo : PySem.W.nsIn K mainGlobals "Booking" = some (some (.ref CBo)))
    (abi : PySem.W.findIn K (.ref CBo) "__init__" = some (some (.ref fbi)))
    (lbi : K.lookup fbi = some ⟨ocbi, odbi, .func (PySem.W.fnOf "__init__" "Booking.__init__" (defArgs s_Booking___init__) (defBody s_Booking___init__) (defScope s_Booking___init__) .none kVbi dcbi pmbi anbi cdbi ctbi), slbi⟩)
    (cbi : PySem.W.codeIn K cdbi "Booking.__init__" = true)
    (kbi : PySem.W.keepIn K (.ref fbi) = true)
    (tybi : PySem.W.typeIn K (.ref fbi) = some (.type "function"))
    (fibi : PySem.W.fnIn K fbi = true)
    (plMe : PySem.W.findIn K (.ref CMe) "planned" = some (some (.ref fpl)))
    (plSe : PySem.W.findIn K (.ref CSe) "planned" = some (some (.ref fpl)))
    (plAl : PySem.W.findIn K (.ref CAl) "planned" = some (some (.ref fpl)))
    (plTu : PySem.W.findIn K (.ref CTu) "planned" = some (some (.ref fpl)))
    (lpl : K.lookup fpl = some ⟨ocpl, odpl, .func (PySem.W.fnOf "planned" "Booking.planned" (defArgs s_Booking_planned) (defBody s_Booking_planned) (defScope s_Booking_planned) .none kVpl dcpl pmpl anpl cdpl ctpl), slpl⟩)
    (cpl : PySem.W.codeIn K cdpl "Booking.planned" = true)
    (kpl : PySem.W.keepIn K (.ref fpl) = true)
    (ipl : PySem.W.isFn K (.ref fpl) = true)
    (scMe : PySem.W.findIn K (.ref CMe) "step_count" = some (some (.ref Psc)))
    (scSe : PySem.W.findIn K (.ref CSe) "step_count" = some (some (.ref Psc)))
    (scAl : PySem.W.findIn K (.ref CAl) "step_count" = some (some (.ref Psc)))
    (scTu : PySem.W.findIn K (.ref CTu) "step_count" = some (some (.ref Psc)))
    (pGsc : PySem.W.specialIn K (.ref Psc) "__get__" = some (some (.builtin "property.__get__")))
    (pTsc : PySem.W.takesIn K (.ref Psc) = some true)
    (pRsc : PySem.W.recIn K Psc "property" = some (.ref fsc :: rssc))
    (lnMe : PySem.W.findIn K (.ref CMe) "line" = some (some (.ref Pln)))
    (lnSe : PySem.W.findIn K (.ref CSe) "line" = some (some (.ref Pln)))
    (lnAl : PySem.W.findIn K (.ref CAl) "line" = some (some (.ref Pln)))
    (lnTu : PySem.W.findIn K (.ref CTu) "line" = some (some (.ref Pln)))
    (pGln : PySem.W.specialIn K (.ref Pln) "__get__" = some (some (.builtin "property.__get__")))
    (pTln : PySem.W.takesIn K (.ref Pln) = some true)
    (pRln : PySem.W.recIn K Pln "property" = some (.ref fln :: rsln))
    (lln : K.lookup fln = some ⟨ocln, odln, .func (PySem.W.fnOf "line" "Booking.line" (defArgs s_Booking_line) (defBody s_Booking_line) (defScope s_Booking_line) .none kVln dcln pmln anln cdln ctln), slln⟩)
    (cln : PySem.W.codeIn K cdln "Booking.line" = true)
    (kln : PySem.W.keepIn K (.ref fln) = true)
    (ami : PySem.W.findIn K (.ref CMe) "__init__" = some (some (.ref fmi)))
    (imi : PySem.W.isFn K (.ref fmi) = true)
    (lmi : K.lookup fmi = some ⟨ocmi, odmi, .func (PySem.W.ksFn "__init__" "Meeting.__init__" (defArgs s_Meeting___init__) (defBody s_Meeting___init__) (defScope s_Meeting___init__) .none kVmi dcmi pmmi anmi (.ref cdami) ctmi ccmi), slmi⟩)
    (cmi : PySem.W.codeIn K (.ref cdami) "Meeting.__init__" = true)
    (lcmi : K.lookup ccmi = some ⟨clmi, cldmi, .cell (some (.ref CMe)), cslmi⟩)
    (ldmi : K.lookup cdami = some ⟨cclmi, cddmi, .fields vsmi, ccsmi⟩)
    (vfmi : vsmi[2]? = some (.str filemi tfmi))
    (femi : ((P.main.file : Str) == filemi) = true)
    (asi : PySem.W.findIn K (.ref CSe) "__init__" = some (some (.ref fsi)))
    (isi : PySem.W.isFn K (.ref fsi) = true)
    (lsi : K.lookup fsi = some ⟨ocsi, odsi, .func (PySem.W.ksFn "__init__" "Series.__init__" (defArgs s_Series___init__) (defBody s_Series___init__) (defScope s_Series___init__) .none (.ref kDsi) dcsi pmsi ansi (.ref cdasi) ctsi ccsi), slsi⟩)
    (csi : PySem.W.codeIn K (.ref cdasi) "Series.__init__" = true)
    (lcsi : K.lookup ccsi = some ⟨clsi, cldsi, .cell (some (.ref CSe)), cslsi⟩)
    (ldsi : K.lookup cdasi = some ⟨cclsi, cddsi, .fields vssi, ccssi⟩)
    (vfsi : vssi[2]? = some (.str filesi tfsi))
    (fesi : ((P.main.file : Str) == filesi) = true)
    (aai : PySem.W.findIn K (.ref CAl) "__init__" = some (some (.ref fai)))
    (iai : PySem.W.isFn K (.ref fai) = true)
    (lai : K.lookup fai = some ⟨ocai, odai, .func (PySem.W.ksFn "__init__" "Alternation.__init__" (defArgs s_Alternation___init__) (defBody s_Alternation___init__) (defScope s_Alternation___init__) .none kVai dcai pmai anai (.ref cdaai) ctai ccai), slai⟩)
    (cai : PySem.W.codeIn K (.ref cdaai) "Alternation.__init__" = true)
    (lcai : K.lookup ccai = some ⟨clai, cldai, .cell (some (.ref CAl)), cslai⟩)
    (ldai : K.lookup cdaai = some ⟨cclai, cddai, .fields vsai, ccsai⟩)
    (vfai : vsai[2]? = some (.str fileai tfai))
    (feai : ((P.main.file : Str) == fileai) = true)
    (ati : PySem.W.findIn K (.ref CTu) "__init__" = some (some (.ref fti)))
    (iti : PySem.W.isFn K (.ref fti) = true)
    (lti : K.lookup fti = some ⟨octi, odti, .func (PySem.W.ksFn "__init__" "Turning.__init__" (defArgs s_Turning___init__) (defBody s_Turning___init__) (defScope s_Turning___init__) .none kVti dcti pmti anti (.ref cdati) ctti ccti), slti⟩)
    (cti : PySem.W.codeIn K (.ref cdati) "Turning.__init__" = true)
    (lcti : K.lookup ccti = some ⟨clti, cldti, .cell (some (.ref CTu)), cslti⟩)
    (ldti : K.lookup cdati = some ⟨cclti, cddti, .fields vsti, ccsti⟩)
    (vfti : vsti[2]? = some (.str fileti tfti))
    (feti : ((P.main.file : Str) == fileti) = true)
    (nsmo : PySem.W.nsIn K kDsi "more" = some (some (.int 0 tkmo)))
    (opq : PySem.W.nsIn K cStatics "thirdparty.any" = some none)
    (zsu : PySem.W.nsIn K mainGlobals "super" = some none)
    (htp : (P.main.scope.names.lookup ("super" : Str)).isSome = false)
    (tymi : PySem.W.typeIn K (.ref fmi) = some (.type "function"))
    (fimi : PySem.W.fnIn K fmi = true)
    (mrMeMe : PySem.W.mroIn K CMe (.ref CMe) = some true)
    (suMeMe : PySem.W.ks_superIn K CMe CMe "__init__" = some (some (.ref fbi)))
    (mrSeMe : PySem.W.mroIn K CSe (.ref CMe) = some true)
    (suSeMe : PySem.W.ks_superIn K CSe CMe "__init__" = some (some (.ref fbi)))
    (mrSeSe : PySem.W.mroIn K CSe (.ref CSe) = some true)
    (suSeSe : PySem.W.ks_superIn K CSe CSe "__init__" = some (some (.ref fmi)))
    (mrAlAl : PySem.W.mroIn K CAl (.ref CAl) = some true)
    (suAlAl : PySem.W.ks_superIn K CAl CAl "__init__" = some (some (.ref fbi)))
    (mrTuTu : PySem.W.mroIn K CTu (.ref CTu) = some true)
    (suTuTu : PySem.W.ks_superIn K CTu CTu "__init__" = some (some (.ref fbi)))
    (g9DaybookError : PySem.W.nsIn K mainGlobals "DaybookError" = some (some (.ref e9DaybookError)))
    (i9DaybookError : PySem.W.isClsIn K e9DaybookError = true)
    (t9DaybookError : PySem.W.typeIn K (.ref e9DaybookError) = some (.type "type"))
    (g9DecodeError : PySem.W.nsIn K mainGlobals "DecodeError" = some (some (.ref e9DecodeError)))
    (i9DecodeError : PySem.W.isClsIn K e9DecodeError = true)
    (t9DecodeError : PySem.W.typeIn K (.ref e9DecodeError) = some (.type "type"))
    (g9InvalidNumber : PySem.W.nsIn K mainGlobals "InvalidNumber" = some (some (.ref e9InvalidNumber)))
    (i9InvalidNumber : PySem.W.isClsIn K e9InvalidNumber = true)
    (t9InvalidNumber : PySem.W.typeIn K (.ref e9InvalidNumber) = some (.type "type"))
    (g9InvalidOperation : PySem.W.nsIn K mainGlobals "InvalidOperation" = some (some (.ref e9InvalidOperation)))
    (i9InvalidOperation : PySem.W.isClsIn K e9InvalidOperation = true)
    (t9InvalidOperation : PySem.W.typeIn K (.ref e9InvalidOperation) = some (.type "type"))
    (g9InvalidPlan : PySem.W.nsIn K mainGlobals "InvalidPlan" = some (some (.ref e9InvalidPlan)))
    (i9InvalidPlan : PySem.W.isClsIn K e9InvalidPlan = true)
    (t9InvalidPlan : PySem.W.typeIn K (.ref e9InvalidPlan) = some (.type "type"))
    (g9NotEnough : PySem.W.nsIn K mainGlobals "NotEnough" = some (some (.ref e9NotEnough)))
    (i9NotEnough : PySem.W.isClsIn K e9NotEnough = true)
    (t9NotEnough : PySem.W.typeIn K (.ref e9NotEnough) = some (.type "type"))
    (g9TooFewChairs : PySem.W.nsIn K mainGlobals "TooFewChairs" = some (some (.ref e9TooFewChairs)))
    (i9TooFewChairs : PySem.W.isClsIn K e9TooFewChairs = true)
    (t9TooFewChairs : PySem.W.typeIn K (.ref e9TooFewChairs) = some (.type "type"))
    (gCE : PySem.W.nsIn K mainGlobals "ChairError" = some (some (.ref CE)))
    (bCE : PySem.W.subIn K (.ref CE) (.type "BaseException") = some true)
    (dCE : PySem.W.hasDictIn K CE = true)
    (tCE : PySem.W.typeIn K (.ref CE) = some (.type "type"))
    (x5N : PySem.W.specialIn K (.builtin "object.__class__") "__get__" = some (some (.builtin "getset_descriptor.__get__")))
    (x6N : PySem.W.takesIn K (.builtin "object.__class__") = some true)
    (es_6_0 : PySem.W.subIn K (.ref EInvalidText) (.ref e9DaybookError) = some false)
    (es_6_1 : PySem.W.subIn K (.ref EInvalidText) (.ref e9DecodeError) = some false)
    (es_6_2 : PySem.W.subIn K (.ref EInvalidText) (.ref EInvalidBooking) = some false)
    (es_6_3 : PySem.W.subIn K (.ref EInvalidText) (.ref e9InvalidNumber) = some false)
    (es_6_4 : PySem.W.subIn K (.ref EInvalidText) (.ref e9InvalidOperation) = some false)
    (es_6_5 : PySem.W.subIn K (.ref EInvalidText) (.ref e9InvalidPlan) = some false)
    (es_6_7 : PySem.W.subIn K (.ref EInvalidText) (.ref e9NotEnough) = some false)
    (es_6_8 : PySem.W.subIn K (.ref EInvalidText) (.ref e9TooFewChairs) = some false)
    (sC_6 : PySem.W.subIn K (.ref EInvalidText) (.ref CE) = some true)
    (vE_6 : PySem.W.subIn K (.ref EInvalidText) (.type "ValueError") = some true)
    (x1_6 : PySem.W.findIn K (.ref EInvalidText) "__getattribute__" = some (some (.builtin "BaseException.__getattribute__")))
    (x2_6 : PySem.W.findIn K (.ref EInvalidText) "__getattr__" = some none)
    (x3_6 : PySem.W.hasDictIn K EInvalidText = true)
    (x4_6 : PySem.W.findIn K (.ref EInvalidText) "__class__" = some (some (.builtin "object.__class__")))
    (x7_6 : PySem.W.mroIn K EInvalidText (.type "object") = some true)
    (nI_6 : PySem.W.findIn K (.ref EInvalidText) "index" = some none)
    (nR_6 : PySem.W.findIn K (.ref EInvalidText) "row" = some none)
    (nO_6 : PySem.W.findIn K (.ref EInvalidText) "offset" = some none)
    (a_format_bookings : PySem.W.nsIn K mainGlobals "format_bookings" = some (some (.ref f_format_bookings)))
    (l_format_bookings : K.lookup f_format_bookings = some ⟨oc_format_bookings, od_format_bookings, .func (PySem.W.fnOf "format_bookings" "format_bookings" (defArgs s_format_bookings) (defBody s_format_bookings) (defScope s_format_bookings) .none kV_format_bookings dc_format_bookings pm_format_bookings an_format_bookings cd_format_bookings ct_format_bookings), sl_format_bookings⟩)
    (c_format_bookings : PySem.W.codeIn K cd_format_bookings "format_bookings" = true)
    (k_format_bookings : PySem.W.keepIn K (.ref f_format_bookings) = true)
    (pA : PySem.W.findIn K (.ref C) "steps" = some (some (.ref pS)))
    (pG : PySem.W.specialIn K (.ref pS) "__get__" = some (some (.builtin "property.__get__")))
    (pT : PySem.W.takesIn K (.ref pS) = some true)
    (pR : PySem.W.recIn K pS "property" = some (.ref fmst :: rs))
    (lmst : K.lookup fmst = some ⟨ocmst, odmst, .func (PySem.W.fnOf "steps" "Plan.steps" (defArgs sSteps) (defBody sSteps) (defScope sSteps) .none kVmst dcmst pmmst anmst cdmst ctmst), slmst⟩)
    (cmst : PySem.W.codeIn K cdmst "Plan.steps" = true)
    (kmst : PySem.W.keepIn K (.ref fmst) = true)
    (pg : PySem.W.plainGet K C Str.empty = true)
    (hd : PySem.W.hasDictIn K C = true)
    (po : PySem.W.plainOver K C = true)
    (sa : PySem.W.findIn K (.ref C) "__setattr__" = some (some (.builtin "object.__setattr__")))
    (mk : PySem.W.makesIn K C = true)
    (kc : PySem.W.keepIn K (.ref C) = true)
    (nS : PySem.W.findIn K (.ref C) "step_tuple" = some none)
    (rd : PySem.W.readsIn K C (.type "type") = true)
    (ga : PySem.W.specialIn K (.ref C) "__getattribute__" = some (some (.builtin "type.__getattribute__")))
    (v1 : PySem.W.findCls K (.ref C) (.type "type") "MAX_STEPS" = some (.val (.int 60 t1)))
    (v2 : PySem.W.findCls K (.ref C) (.type "type") "MAX_CHAIRS" = some (.val (.int 1000000000000000000 t2)))
    (w2 : PySem.W.findIn K (.ref C) "MAX_CHAIRS" = some (some (.int 1000000000000000000 t3)))
    (w3 : PySem.W.specialIn K (.int 1000000000000000000 t3) "__get__" = some none)
    (aT : PySem.W.nsIn K mainGlobals "TURN" = some (some (.ref TU)))
    (lT : K.lookup TU = some ⟨.type "tuple", dT, .seq #[.str "turn" t4] nT, slT⟩)
    (q_DIGITS : PySem.W.nsIn K mainGlobals "DIGITS" = some (some (.str "0123456789" t_DIGITS)))
    (q_LONG_PART : PySem.W.nsIn K mainGlobals "LONG_PART" = some (some (.int 1000000000000000000 t_LONG_PART)))
    (q_MAX_MEETINGS : PySem.W.nsIn K mainGlobals "MAX_MEETINGS" = some (some (.int 60 t_MAX_MEETINGS)))
    (z0 : PySem.W.nsIn K mainGlobals "isinstance" = some none)
    (z1 : PySem.W.nsIn K mainGlobals "int" = some none)
    (z2 : PySem.W.nsIn K mainGlobals "bool" = some none)
    (z3 : PySem.W.nsIn K mainGlobals "tuple" = some none)
    (z4 : PySem.W.nsIn K mainGlobals "list" = some none)
    (z5 : PySem.W.nsIn K mainGlobals "len" = some none)
    (z6 : PySem.W.nsIn K mainGlobals "max" = some none)
    (z7 : PySem.W.nsIn K mainGlobals "min" = some none)
    (z8 : PySem.W.nsIn K mainGlobals "abs" = some none)
    (z9 : PySem.W.nsIn K mainGlobals "enumerate" = some none)
    (z10 : PySem.W.nsIn K mainGlobals "range" = some none)
    (z11 : PySem.W.nsIn K mainGlobals "sum" = some none)
    (z12 : PySem.W.nsIn K mainGlobals "sorted" = some none)
    (z13 : PySem.W.nsIn K mainGlobals "divmod" = some none)
    (z14 : PySem.W.nsIn K mainGlobals "zip" = some none)
    (z15 : PySem.W.nsIn K mainGlobals "str" = some none)
    (z16 : PySem.W.nsIn K mainGlobals "dict" = some none)
    (z17 : PySem.W.nsIn K mainGlobals "ValueError" = some none)
    (z18 : PySem.W.nsIn K mainGlobals "any" = some none)
    : ∃ (fd : FuncData) (c T : Addr), PySem.W.tabIn K "law" = some (c, T) ∧ K.lookup T = none ∧ (∀ (s : Shared) (v : Value), BindsTo s fd ⟨[v], []⟩ [("_law_script", v)]) ∧ ∀ base : Heap, K.In base → base.Ns mainGlobals mg → TabB base mg c T → FnOk P w K mg base CX0 13 fa fd ["_law_script"] (spLawT K T) := by
  have e := hfa.symm.trans (PySem.W.mg_of X G a_law)
  cases e
  have Bb : Bt mg := ⟨PySem.W.mg_none_of X G z0, PySem.W.mg_none_of X G z1, PySem.W.mg_none_of X G z2, PySem.W.mg_none_of X G z3, PySem.W.mg_none_of X G z4, PySem.W.mg_none_of X G z5, PySem.W.mg_none_of X G z6, PySem.W.mg_none_of X G z7, PySem.W.mg_none_of X G z8, PySem.W.mg_none_of X G z9, PySem.W.mg_none_of X G z10, PySem.W.mg_none_of X G z11, PySem.W.mg_none_of X G z12, PySem.W.mg_none_of X G z13, PySem.W.mg_none_of X G z14, PySem.W.mg_none_of X G z15, PySem.W.mg_none_of X G z16, PySem.W.mg_none_of X G z17, PySem.W.mg_none_of X G z18⟩
  have F_is_whole := fun_mk (st := sIsWhole) l_is_whole c_is_whole k_is_whole
  have F_is_number := fun_mk (st := sIsNum) l_is_number c_is_number k_is_number
  have F__law_mix := fun_mk (st := s__law_mix) l__law_mix c__law_mix k__law_mix
  have F__law_next := fun_mk (st := s__law_next) l__law_next c__law_next k__law_next
  have F__law_alike := fun_mk (st := sAlike) l__law_alike c__law_alike k__law_alike
  have F_integer_in := fun_mk (st := s_integer_in) l_integer_in c_integer_in k_integer_in
  have F_word_of := fun_mk (st := s_word_of) l_word_of c_word_of k_word_of
  have F__law_booking := fun_mk (st := s__law_booking) l__law_booking c__law_booking k__law_booking
  have F__law_number := fun_mk (st := s__law_number) l__law_number c__law_number k__law_number
  have F__law_read := fun_mk (st := s__law_read) l__law_read c__law_read k__law_read
  have F__law_bent := fun_mk (st := s__law_bent) l__law_bent c__law_bent k__law_bent
  have F_parse_bookings := fun_mk (st := s_parse_bookings) l_parse_bookings c_parse_bookings k_parse_bookings
  have F__law_outcome := fun_mk (st := sOutcome) l__law_outcome c__law_outcome k__law_outcome
  have F_check_meeting := fun_mk (st := s_check_meeting) l_check_meeting c_check_meeting k_check_meeting
  have F_check_meeting_count := fun_mk (st := s_check_meeting_count) l_check_meeting_count c_check_meeting_count k_check_meeting_count
  have F_booking_in := fun_mk (st := s_booking_in) l_booking_in c_booking_in k_booking_in
  have Fminit := fun_mk (st := sInit) lminit cminit kminit
  have Fmjoined := fun_mk (st := sJoined) lmjoined cmjoined kmjoined
  have Fmst := fun_mk (st := sSteps) lmst cmst kmst
  have b_is_whole := F_is_whole.binds (ps := ["value"]) fun _ _ _ _ _ _ us hl => match us, hl with | [_], _ => rfl
  have b_is_number := F_is_number.binds (ps := ["value", "least", "most"]) fun _ _ _ _ _ _ us hl => match us, hl with | [_, _, _], _ => rfl
  have b__law_mix := F__law_mix.binds (ps := ["_law_script", "_law_seed"]) fun _ _ _ _ _ _ us hl => match us, hl with | [_, _], _ => rfl
  have b__law_next := F__law_next.binds (ps := ["_law_h", "_law_limit"]) fun _ _ _ _ _ _ us hl => match us, hl with | [_, _], _ => rfl
  have b__law_alike := F__law_alike.binds (ps := ["_law_found", "_law_due"]) fun _ _ _ _ _ _ us hl => match us, hl with | [_, _], _ => rfl
  have b_integer_in := F_integer_in.binds (ps := ["word"]) fun _ _ _ _ _ _ us hl => match us, hl with | [_], _ => rfl
  have b_word_of := F_word_of.binds (ps := ["number"]) fun _ _ _ _ _ _ us hl => match us, hl with | [_], _ => rfl
  have b__law_booking := F__law_booking.binds (ps := ["_law_h"]) fun _ _ _ _ _ _ us hl => match us, hl with | [_], _ => rfl
  have b__law_number := F__law_number.binds (ps := ["_law_word"]) fun _ _ _ _ _ _ us hl => match us, hl with | [_], _ => rfl
  have b__law_read := F__law_read.binds (ps := ["_law_words"]) fun _ _ _ _ _ _ us hl => match us, hl with | [_], _ => rfl
  have b__law_bent := F__law_bent.binds (ps := ["_law_h", "_law_text"]) fun _ _ _ _ _ _ us hl => match us, hl with | [_, _], _ => rfl
  have b_parse_bookings := F_parse_bookings.binds (ps := ["text"]) fun _ _ _ _ _ _ us hl => match us, hl with | [_], _ => rfl
  have b__law_outcome := F__law_outcome.binds (ps := ["_law_call"]) fun _ _ _ _ _ _ us hl => match us, hl with | [_], _ => rfl
  have b_check_meeting := F_check_meeting.binds (ps := ["room", "need"]) fun _ _ _ _ _ _ us hl => match us, hl with | [_, _], _ => rfl
  have b_check_meeting_count := F_check_meeting_count.binds (ps := ["many"]) fun _ _ _ _ _ _ us hl => match us, hl with | [_], _ => rfl
  have b_booking_in := F_booking_in.binds (ps := ["words"]) fun _ _ _ _ _ _ us hl => match us, hl with | [_], _ => rfl
  have bmst := Fmst.binds (ps := ["self"]) fun _ _ _ _ _ _ us hl => match us, hl with | [_], _ => rfl
  have Tt : Txt K mg C TU pS fmst (.type "type") := ⟨Bb, ⟨pg, hd, po, sa⟩, nS, PySem.W.mg_of X G aC, ⟨rd, ga⟩, ⟨_, v1, _, rfl⟩, ⟨_, v2, _, rfl⟩, ⟨_, w2, ⟨_, rfl⟩, w3, rfl⟩, PySem.W.mg_of X G aT,
    fun H => .inr ⟨_, _, _, lT, rfl, rfl, by show 1 ≤ sizeLine; decide, .cons ⟨_, rfl⟩ .nil⟩, ⟨pA, pG, pT, rs, pR⟩⟩
  refine ⟨PySem.W.fnOf "law" "law" (defArgs sLaw) (defBody sLaw) (defScope sLaw) .none kV_law dc_law pm_law an_law (.ref cL) ct_law, cL, PT, tab_mk a_law l_law rfl lC v11, tN, fun s v => .of_eq rfl, fun base _ _ TB => ?_⟩
  have at_ := fun {x : Str} {f : Addr} (a : PySem.W.nsIn K mainGlobals x = some (some (.ref f))) => PySem.W.mg_of X G a
  have Gg : Gs P w K mg base C fmst _ := ⟨ok_steps Fmst Tt, bmst⟩
  have Mm : Mk K C fminit := ⟨mk, aminit, iminit, kc⟩
  have Mj : Meth K C "joined" fmjoined := ⟨amjoined, imjoined, kmjoined⟩
  have D_is_whole := dn_mk (P := P) (w := w) (base := base) (at_ a_is_whole) k_is_whole (ok_iswhole F_is_whole Bb) b_is_whole
  have D_is_number := dn_mk (P := P) (w := w) (base := base) (at_ a_is_number) k_is_number (ok_isnum F_is_number D_is_whole) b_is_number
  have D__law_mix := dn_mk (P := P) (w := w) (base := base) (at_ a__law_mix) k__law_mix (ok__law_mix F__law_mix Bb) b__law_mix
  have D__law_next := dn_mk (P := P) (w := w) (base := base) (at_ a__law_next) k__law_next (ok__law_next F__law_next Bb) b__law_next
  have D__law_alike := dn_mk (P := P) (w := w) (base := base) (at_ a__law_alike) k__law_alike (ok_alikeD F__law_alike Bb (at_ a__law_alike) k__law_alike b__law_alike 5) b__law_alike
  have D_integer_in := dn_mk (P := P) (w := w) (base := base) (at_ a_integer_in) k_integer_in (ok_integer_in F_integer_in Bb ⟨_, PySem.W.mg_of X G q_DIGITS, ⟨_, rfl⟩⟩) b_integer_in
  have D_word_of := dn_mk (P := P) (w := w) (base := base) (at_ a_word_of) k_word_of (ok_word_of F_word_of Tt ⟨_, PySem.W.mg_of X G q_LONG_PART, ⟨_, rfl⟩⟩) b_word_of
  have D__law_booking := dn_mk (P := P) (w := w) (base := base) (at_ a__law_booking) k__law_booking (ok__law_booking F__law_booking Bb D__law_next) b__law_booking
  have D__law_number := dn_mk (P := P) (w := w) (base := base) (at_ a__law_number) k__law_number (ok__law_number F__law_number Bb) b__law_number
  have D__law_read := dn_mk (P := P) (w := w) (base := base) (at_ a__law_read) k__law_read (ok__law_read F__law_read Bb D__law_number) b__law_read
  have D__law_bent := dn_mk (P := P) (w := w) (base := base) (at_ a__law_bent) k__law_bent (ok__law_bent F__law_bent Bb D__law_next) b__law_bent
  have ERInvalidBooking : Err K mg "InvalidBooking" EInvalidBooking := ⟨PySem.W.mg_of X G gInvalidBooking, kInvalidBooking, ⟨_, _, _, _, PySem.F.excBase_ValueError, xInvalidBooking⟩, bInvalidBooking, tInvalidBooking⟩
  have EXInvalidBooking : PySem.W.exmOne K (.ref EInvalidBooking) (.ref EInvalidBooking) = some true := exm_own bInvalidBooking iInvalidBooking tInvalidBooking sInvalidBooking
  have XTInvalidText : PySem.ErX.EiTxt P K mg "InvalidText" EInvalidText fIInvalidText := ⟨PySem.W.mg_of X G gInvalidText, kInvalidText, ⟨_, _, _, _, _, _, _, _, _, _, _, _, _, _, _, xInvalidText, by show PySem.HandSPX.refsVE PySem.HandSPX.veTail = true; decide +kernel⟩, saInvalidText, nbInvalidText, iInvalidText, tfInvalidText, bInvalidText, tInvalidText, svInvalidText, suInvalidText, opInvalidText, PySem.W.mg_none_of X G zsInvalidText, htInvalidText,
    ⟨ccInvalidText, cdaInvalidText, _, _, _, _, _, _, _, _, _, _, _, _, _, _, _, _, _, _, _, _, _, _, _, _, _, _, _, _, _, _, _, _, _, _, _, _, lInvalidText, cInvalidText, lcInvalidText, ldInvalidText, vfInvalidText, fiInvalidText, u1InvalidText, u2InvalidText, lnInvalidText⟩⟩
  have XFInvalidText : XfC K EInvalidText := ⟨gaInvalidText, ggInvalidText, bInvalidText, hdInvalidText⟩
  have EXInvalidText : PySem.W.exmOne K (.ref EInvalidText) (.ref EInvalidText) = some true := exm_own bInvalidText icInvalidText tInvalidText sInvalidText
  have Fbi := fun_mk (st := s_Booking___init__) lbi cbi kbi
  have bbi := Fbi.binds (ps := ["self", "words", "steps"]) fun _ _ _ _ _ _ us hl => match us, hl with | [_, _, _], _ => rfl
  have Fpl := fun_mk (st := s_Booking_planned) lpl cpl kpl
  have bpl := Fpl.binds (ps := ["self"]) fun _ _ _ _ _ _ us hl => match us, hl with | [_], _ => rfl
  have Fln := fun_mk (st := s_Booking_line) lln cln kln
  have bln := Fln.binds (ps := ["self"]) fun _ _ _ _ _ _ us hl => match us, hl with | [_], _ => rfl
  have SCMeMe : SupC K CMe CMe "__init__" fbi := ⟨mrMeMe, suMeMe, tybi, fibi⟩
  have SCSeMe : SupC K CSe CMe "__init__" fbi := ⟨mrSeMe, suSeMe, tybi, fibi⟩
  have SCSeSe : SupC K CSe CSe "__init__" fmi := ⟨mrSeSe, suSeSe, tymi, fimi⟩
  have SCAlAl : SupC K CAl CAl "__init__" fbi := ⟨mrAlAl, suAlAl, tybi, fibi⟩
  have SCTuTu : SupC K CTu CTu "__init__" fbi := ⟨mrTuTu, suTuTu, tybi, fibi⟩
  have SFMe : SupF P K mg CMe ccmi cdami := ⟨⟨_, _, _, lcmi⟩, ⟨_, _, _, _, _, _, ldmi, vfmi, femi⟩, isCls_some icMe, opq, htp, PySem.W.mg_none_of X G zsu⟩
  have SFSe : SupF P K mg CSe ccsi cdasi := ⟨⟨_, _, _, lcsi⟩, ⟨_, _, _, _, _, _, ldsi, vfsi, fesi⟩, isCls_some icSe, opq, htp, PySem.W.mg_none_of X G zsu⟩
  have SFAl : SupF P K mg CAl ccai cdaai := ⟨⟨_, _, _, lcai⟩, ⟨_, _, _, _, _, _, ldai, vfai, feai⟩, isCls_some icAl, opq, htp, PySem.W.mg_none_of X G zsu⟩
  have SFTu : SupF P K mg CTu ccti cdati := ⟨⟨_, _, _, lcti⟩, ⟨_, _, _, _, _, _, ldti, vfti, feti⟩, isCls_some icTu, opq, htp, PySem.W.mg_none_of X G zsu⟩
  have OMe : BTxt K CMe := ⟨⟨pgMe, hdMe, poMe, saMe⟩, nMe0, nMe1⟩
  have MPMe : Meth K CMe "planned" fpl := ⟨plMe, ipl, kpl⟩
  have GBMe : FnR P w K mg base CX0 1 fbi (spBkInit CMe) := ((ok_Booking___init__ (P := P) (w := w) (base := base) (mg := mg) Fbi OMe).raw bbi .nil).imp fun vs H Q E h => by rw [List.append_nil]; exact h
  have KAMe : KdAt K CMe fpl Psc fsc Pln fln := ⟨OMe, MPMe, ⟨scMe, pGsc, pTsc, rssc, pRsc⟩, ⟨lnMe, pGln, pTln, rsln, pRln⟩⟩
  have OSe : BTxt K CSe := ⟨⟨pgSe, hdSe, poSe, saSe⟩, nSe0, nSe1⟩
  have MPSe : Meth K CSe "planned" fpl := ⟨plSe, ipl, kpl⟩
  have GBSe : FnR P w K mg base CX0 1 fbi (spBkInit CSe) := ((ok_Booking___init__ (P := P) (w := w) (base := base) (mg := mg) Fbi OSe).raw bbi .nil).imp fun vs H Q E h => by rw [List.append_nil]; exact h
  have KASe : KdAt K CSe fpl Psc fsc Pln fln := ⟨OSe, MPSe, ⟨scSe, pGsc, pTsc, rssc, pRsc⟩, ⟨lnSe, pGln, pTln, rsln, pRln⟩⟩
  have OAl : BTxt K CAl := ⟨⟨pgAl, hdAl, poAl, saAl⟩, nAl0, nAl1⟩
  have MPAl : Meth K CAl "planned" fpl := ⟨plAl, ipl, kpl⟩
  have GBAl : FnR P w K mg base CX0 1 fbi (spBkInit CAl) := ((ok_Booking___init__ (P := P) (w := w) (base := base) (mg := mg) Fbi OAl).raw bbi .nil).imp fun vs H Q E h => by rw [List.append_nil]; exact h
  have KAAl : KdAt K CAl fpl Psc fsc Pln fln := ⟨OAl, MPAl, ⟨scAl, pGsc, pTsc, rssc, pRsc⟩, ⟨lnAl, pGln, pTln, rsln, pRln⟩⟩
  have OTu : BTxt K CTu := ⟨⟨pgTu, hdTu, poTu, saTu⟩, nTu0, nTu1⟩
  have MPTu : Meth K CTu "planned" fpl := ⟨plTu, ipl, kpl⟩
  have GBTu : FnR P w K mg base CX0 1 fbi (spBkInit CTu) := ((ok_Booking___init__ (P := P) (w := w) (base := base) (mg := mg) Fbi OTu).raw bbi .nil).imp fun vs H Q E h => by rw [List.append_nil]; exact h
  have KATu : KdAt K CTu fpl Psc fsc Pln fln := ⟨OTu, MPTu, ⟨scTu, pGsc, pTsc, rssc, pRsc⟩, ⟨lnTu, pGln, pTln, rsln, pRln⟩⟩
  have MkMe : Mk K CMe fmi := ⟨mkMe, ami, imi, kcMe⟩
  have MkSe : Mk K CSe fsi := ⟨mkSe, asi, isi, kcSe⟩
  have MkAl : Mk K CAl fai := ⟨mkAl, aai, iai, kcAl⟩
  have MkTu : Mk K CTu fti := ⟨mkTu, ati, iti, kcTu⟩
  have KAll : KdsAt K ⟨CMe, CSe, CAl, CTu⟩ fpl Psc fsc Pln fln := ⟨KAMe, KASe, KAAl, KATu⟩
  have DW := dn_mk (P := P) (w := w) (base := base) (at_ a_is_whole) k_is_whole (ok_iswholeO F_is_whole Bb) b_is_whole
  have DO := dn_mk (P := P) (w := w) (base := base) (at_ a_is_number) k_is_number (ok_isnumG F_is_number DW) b_is_number
  have DX_cm := dnn_mk (P := P) (w := w) (base := base) (at_ a_check_meeting) k_check_meeting (okn_check_meeting F_check_meeting Tt ERInvalidBooking DO) b_check_meeting
  have DX_cc := dnn_mk (P := P) (w := w) (base := base) (at_ a_check_meeting_count) k_check_meeting_count (okn_check_meeting_count F_check_meeting_count ⟨_, PySem.W.mg_of X G q_MAX_MEETINGS, ⟨_, rfl⟩⟩ ERInvalidBooking DO) b_check_meeting_count
  have QMi := okn_Meeting___init__ (P := P) (w := w) (base := base) (mg := mg) lmi cmi SFMe D_word_of DX_cm GBMe SCMeMe
  have QMs := okn_Meeting___init__ (P := P) (w := w) (base := base) (mg := mg) lmi cmi SFMe D_word_of DX_cm GBSe SCSeMe
  have bmi : Binds K _ ["self", "room", "need"] [] := Binds.all (fd := PySem.W.ksFn "__init__" "Meeting.__init__" (defArgs s_Meeting___init__) (defBody s_Meeting___init__) (defScope s_Meeting___init__) .none kVmi dcmi pmmi anmi (.ref cdami) ctmi ccmi) fun us hl => match us, hl with | [_, _, _], _ => rfl
  have GMi : FnR P w K mg base (L2N.CX P w) 3 fmi (spMeetInitO CMe EInvalidBooking) := (QMi.raw bmi .nil).imp fun vs H Q E h => by rw [List.append_nil]; exact h
  have GMs : FnR P w K mg base (L2N.CX P w) 3 fmi (spMeetInitO CSe EInvalidBooking) := (QMs.raw bmi .nil).imp fun vs H Q E h => by rw [List.append_nil]; exact h
  have GSi := okn_Series___init__ (P := P) (w := w) (base := base) (mg := mg) lsi csi SFSe Tt D_word_of DX_cc DX_cm ERInvalidBooking GMs SCSeSe OSe DW
  have QTi := okn_Turning___init__ (P := P) (w := w) (base := base) (mg := mg) lti cti SFTu Tt GBTu SCTuTu
  have GAi := okn_Alternation___init__ (P := P) (w := w) (base := base) (mg := mg) lai cai SFAl Tt D_word_of DX_cc DX_cm GBAl SCAlAl
  have kb1 := kbn_times (K := K) (cda := cdasi) (cc := ccsi) (doc := dcsi) (pm := pmsi) (ct := ctsi) (an := ansi) nsmo
  have kb2 := kbn_more (K := K) (D := kDsi) (cda := cdasi) (cc := ccsi) (doc := dcsi) (pm := pmsi) (ct := ctsi) (an := ansi)
  have bti : Binds K _ ["self"] [] := Binds.all (fd := PySem.W.ksFn "__init__" "Turning.__init__" (defArgs s_Turning___init__) (defBody s_Turning___init__) (defScope s_Turning___init__) .none kVti dcti pmti anti (.ref cdati) ctti ccti) fun us hl => match us, hl with | [_], _ => rfl
  have GTi : FnR P w K mg base (L2N.CX P w) 3 fti (spTurnInitN K CTu) := (QTi.raw bti .nil).imp fun vs H Q E h => by rw [List.append_nil]; exact h
  have Ktext : IsKind K CE e9DaybookError e9DecodeError EInvalidBooking e9InvalidNumber e9InvalidOperation e9InvalidPlan EInvalidText e9NotEnough e9TooFewChairs EInvalidText "text" := ⟨PySem.W.exm_ref bCE dCE tCE sC_6, _, _, _, _, _, _, _, _, _, 6, ⟨⟨x1_6, x2_6, bInvalidText, x3_6, x4_6, x5N, x6N, x7_6⟩, ⟨x1_6, x2_6, bInvalidText, x3_6⟩, tInvalidText, sInvalidText, nI_6, nR_6, nO_6, kit_noB sInvalidText i9DaybookError t9DaybookError es_6_0, kit_noB sInvalidText i9DecodeError t9DecodeError es_6_1, kit_noB sInvalidText iInvalidBooking tInvalidBooking es_6_2, kit_noB sInvalidText i9InvalidNumber t9InvalidNumber es_6_3, kit_noB sInvalidText i9InvalidOperation t9InvalidOperation es_6_4, kit_noB sInvalidText i9InvalidPlan t9InvalidPlan es_6_5, kit_ref icInvalidText tInvalidText sInvalidText (fun z => nomatch z), kit_noB sInvalidText i9NotEnough t9NotEnough es_6_7, kit_noB sInvalidText i9TooFewChairs t9TooFewChairs es_6_8, kit_ve vE_6⟩, flags_text⟩
  have NG : Nine mg e9DaybookError e9DecodeError EInvalidBooking e9InvalidNumber e9InvalidOperation e9InvalidPlan EInvalidText e9NotEnough e9TooFewChairs := ⟨at_ g9DaybookError, at_ g9DecodeError, at_ gInvalidBooking, at_ g9InvalidNumber, at_ g9InvalidOperation, at_ g9InvalidPlan, at_ gInvalidText, at_ g9NotEnough, at_ g9TooFewChairs⟩
  have F_format_bookings := fun_mk (st := s_format_bookings) l_format_bookings c_format_bookings k_format_bookings
  have GF := ok_format_bookings (P := P) (w := w) (base := base) (mg := mg) F_format_bookings KAll Fln bln
  have D_format_bookings : Dn P w K mg base 4 "format_bookings" f_format_bookings (spFmt K ⟨CMe, CSe, CAl, CTu⟩) := ⟨at_ a_format_bookings, k_format_bookings, GF⟩
  have DBI := okn_booking_in (P := P) (w := w) (base := base) (mg := mg) (D := ⟨CMe, CSe, CAl, CTu⟩) F_booking_in D_integer_in ERInvalidBooking MkTu GTi (at_ aTu) MkAl GAi (at_ aAl) MkMe GMi (at_ aMe) MkSe GSi (at_ aSe) kb1 kb2
  have DXp := dnx_mk (P := P) (w := w) (base := base) (at_ a_parse_bookings) k_parse_bookings (okx_parse_bookings F_parse_bookings Bb DBI (at_ a_booking_in) k_booking_in b_booking_in ERInvalidBooking EXInvalidBooking XTInvalidText) b_parse_bookings
  have D_parse_bookings : Dn P w K mg base 8 "parse_bookings" f_parse_bookings (spParseC K ⟨CMe, CSe, CAl, CTu⟩ EInvalidText) := ⟨at_ a_parse_bookings, k_parse_bookings, fnr_calm DXp.ok⟩
  exact ok_law l_law c_law TB Tt D__law_mix D__law_next D__law_booking D_parse_bookings D__law_alike D_format_bookings D__law_bent D__law_read KAll Fpl bpl Fln bln F__law_outcome (at_ a__law_outcome) k__law_outcome b__law_outcome (at_ gCE) NG Ktext DXp
end Cc

open PySem PySem.W PyProof.Rows
set_option maxRecDepth 100000 in
set_option maxHeartbeats 0 in
theorem PySem.Challenge.cw_chaircarry_k42_whole_texts_of_bookings_holds : PySem.Challenge.rw_chaircarry_k42_whole_texts_of_bookings.Holds := by
  w_on; o_law; k_head; (case hw => w_witness2)
  k_fill
  refine Cc.walk_tab (l := PySem.Challenge.rw_chaircarry_k42_whole_texts_of_bookings) (n := 63) (k := 13) (x := "_law_script") (sp := fun w T => Cc.spLawT _ T) rfl (by decide) rfl ⟨rfl, by decide, by decide⟩ (fun w h Y => PySem.W.km_in_of Y) rfl ?F fun _ T H a ns hl hT hF => ⟨a, ns, rfl, hF, hl, hT, fun _ => rfl⟩
  case F =>
    intro w mg fa h KX G hmg
    refine' Cc.all_mk KX G hmg ?a_is_whole ?l_is_whole ?c_is_whole ?k_is_whole ?a_is_number ?l_is_number ?c_is_number ?k_is_number ?a__law_mix ?l__law_mix ?c__law_mix ?k__law_mix ?a__law_next ?l__law_next ?c__law_next ?k__law_next ?a__law_alike ?l__law_alike ?c__law_alike ?k__law_alike ?a_integer_in ?l_integer_in ?c_integer_in ?k_integer_in ?a_word_of ?l_word_of ?c_word_of ?k_word_of ?a__law_booking ?l__law_booking ?c__law_booking ?k__law_booking ?a__law_number ?l__law_number ?c__law_number ?k__law_number ?a__law_read ?l__law_read ?c__law_read ?k__law_read ?a__law_bent ?l__law_bent ?c__law_bent ?k__law_bent ?a_parse_bookings ?l_parse_bookings ?c_parse_bookings ?k_parse_bookings ?a_law ?l_law ?c_law ?lC ?v11 ?tN ?k_law ?a__law_outcome ?l__law_outcome ?c__law_outcome ?k__law_outcome ?a_check_meeting ?l_check_meeting ?c_check_meeting ?k_check_meeting ?a_check_meeting_count ?l_check_meeting_count ?c_check_meeting_count ?k_check_meeting_count ?a_booking_in ?l_booking_in ?c_booking_in ?k_booking_in ?aC ?aminit ?iminit ?lminit ?cminit ?kminit ?amjoined ?imjoined ?lmjoined ?cmjoined ?kmjoined ?gInvalidBooking ?xInvalidBooking ?kInvalidBooking ?bInvalidBooking ?tInvalidBooking ?iInvalidBooking ?sInvalidBooking ?nInvalidBooking ?gInvalidText ?xInvalidText ?kInvalidText ?saInvalidText ?gaInvalidText ?ggInvalidText ?nbInvalidText ?iInvalidText ?tfInvalidText ?bInvalidText ?tInvalidText ?hdInvalidText ?icInvalidText ?sInvalidText ?svInvalidText ?suInvalidText ?opInvalidText ?zsInvalidText ?htInvalidText ?lInvalidText ?cInvalidText ?lcInvalidText ?ldInvalidText ?vfInvalidText ?fiInvalidText ?u1InvalidText ?u2InvalidText ?lnInvalidText ?aMe ?pgMe ?hdMe ?poMe ?saMe ?mkMe ?kcMe ?nMe0 ?nMe1 ?aSe ?pgSe ?hdSe ?poSe ?saSe ?mkSe ?kcSe ?nSe0 ?nSe1 ?aAl ?pgAl ?hdAl ?poAl ?saAl ?mkAl ?kcAl ?nAl0 ?nAl1 ?aTu ?pgTu ?hdTu ?poTu ?saTu ?mkTu ?kcTu ?nTu0 ?nTu1 ?icMe ?icSe ?icAl ?icTu ?aBo ?abi ?lbi ?cbi ?kbi ?tybi ?fibi ?plMe ?plSe ?plAl ?plTu ?lpl ?cpl ?kpl ?ipl ?scMe ?scSe ?scAl ?scTu ?pGsc ?pTsc ?pRsc ?lnMe ?lnSe ?lnAl ?lnTu ?pGln ?pTln ?pRln ?lln ?cln ?kln ?ami ?imi ?lmi ?cmi ?lcmi ?ldmi ?vfmi ?femi ?asi ?isi ?lsi ?csi ?lcsi ?ldsi ?vfsi ?fesi ?aai ?iai ?lai ?cai ?lcai ?ldai ?vfai ?feai ?ati ?iti ?lti ?cti ?lcti ?ldti ?vfti ?feti ?nsmo ?opq ?zsu ?htp ?tymi ?fimi ?mrMeMe ?suMeMe ?mrSeMe ?suSeMe ?mrSeSe ?suSeSe ?mrAlAl ?suAlAl ?mrTuTu ?suTuTu ?g9DaybookError ?i9DaybookError ?t9DaybookError ?g9DecodeError ?i9DecodeError ?t9DecodeError ?g9InvalidNumber ?i9InvalidNumber ?t9InvalidNumber ?g9InvalidOperation ?i9InvalidOperation ?t9InvalidOperation ?g9InvalidPlan ?i9InvalidPlan ?t9InvalidPlan ?g9NotEnough ?i9NotEnough ?t9NotEnough ?g9TooFewChairs ?i9TooFewChairs ?t9TooFewChairs ?gCE ?bCE ?dCE ?tCE ?x5N ?x6N ?es_6_0 ?es_6_1 ?es_6_2 ?es_6_3 ?es_6_4 ?es_6_5 ?es_6_7 ?es_6_8 ?sC_6 ?vE_6 ?x1_6 ?x2_6 ?x3_6 ?x4_6 ?x7_6 ?nI_6 ?nR_6 ?nO_6 ?a_format_bookings ?l_format_bookings ?c_format_bookings ?k_format_bookings ?pA ?pG ?pT ?pR ?lmst ?cmst ?kmst ?pg ?hd ?po ?sa ?mk ?kc ?nS ?rd ?ga ?v1 ?v2 ?w2 ?w3 ?aT ?lT ?q_DIGITS ?q_LONG_PART ?q_MAX_MEETINGS ?z0 ?z1 ?z2 ?z3 ?z4 ?z5 ?z6 ?z7 ?z8 ?z9 ?z10 ?z11 ?z12 ?z13 ?z14 ?z15 ?z16 ?z17 ?z18
    (case a_is_whole => k_is); (case l_is_whole => k_is); (case c_is_whole => k_is); (case k_is_whole => k_is); (case a_is_number => k_is); (case l_is_number => k_is)
    (case c_is_number => k_is); (case k_is_number => k_is); (case a__law_mix => k_is); (case l__law_mix => k_is); (case c__law_mix => k_is); (case k__law_mix => k_is)
    (case a__law_next => k_is); (case l__law_next => k_is); (case c__law_next => k_is); (case k__law_next => k_is); (case a__law_alike => k_is); (case l__law_alike => k_is)
    (case c__law_alike => k_is); (case k__law_alike => k_is); (case a_integer_in => k_is); (case l_integer_in => k_is); (case c_integer_in => k_is); (case k_integer_in => k_is)
    (case a_word_of => k_is); (case l_word_of => k_is); (case c_word_of => k_is); (case k_word_of => k_is); (case a__law_booking => k_is); (case l__law_booking => k_is)
    (case c__law_booking => k_is); (case k__law_booking => k_is); (case a__law_number => k_is); (case l__law_number => k_is); (case c__law_number => k_is); (case k__law_number => k_is)
    (case a__law_read => k_is); (case l__law_read => k_is); (case c__law_read => k_is); (case k__law_read => k_is); (case a__law_bent => k_is); (case l__law_bent => k_is)
    (case c__law_bent => k_is); (case k__law_bent => k_is); (case a_parse_bookings => k_is); (case l_parse_bookings => k_is); (case c_parse_bookings => k_is); (case k_parse_bookings => k_is)
    (case a_law => k_is); (case l_law => k_is); (case c_law => k_is); (case lC => k_is); (case v11 => exact rfl); (case tN => exact rfl)
    (case k_law => k_is); (case a__law_outcome => k_is); (case l__law_outcome => k_is); (case c__law_outcome => k_is); (case k__law_outcome => k_is); (case a_check_meeting => k_is)
    (case l_check_meeting => k_is); (case c_check_meeting => k_is); (case k_check_meeting => k_is); (case a_check_meeting_count => k_is); (case l_check_meeting_count => k_is); (case c_check_meeting_count => k_is)
    (case k_check_meeting_count => k_is); (case a_booking_in => k_is); (case l_booking_in => k_is); (case c_booking_in => k_is); (case k_booking_in => k_is); (case aC => k_is)
    (case aminit => k_is); (case iminit => k_is); (case lminit => k_is); (case cminit => k_is); (case kminit => k_is); (case amjoined => k_is)
    (case imjoined => k_is); (case lmjoined => k_is); (case cmjoined => k_is); (case kmjoined => k_is); (case gInvalidBooking => k_is); (case xInvalidBooking => k_exc)
    (case kInvalidBooking => k_is); (case bInvalidBooking => k_is); (case tInvalidBooking => k_is); (case iInvalidBooking => k_is); (case sInvalidBooking => first | rfl | k_is); (case nInvalidBooking => k_is)
    (case gInvalidText => k_is); (case xInvalidText => k_is); (case kInvalidText => k_is); (case saInvalidText => k_is); (case gaInvalidText => k_is); (case ggInvalidText => k_is)
    (case nbInvalidText => k_is); (case iInvalidText => k_is); (case tfInvalidText => k_is); (case bInvalidText => k_is); (case tInvalidText => k_is); (case hdInvalidText => k_is)
    (case icInvalidText => k_is); (case sInvalidText => first | rfl | k_is); (case svInvalidText => k_is); (case suInvalidText => ks_is); (case opInvalidText => k_is); (case zsInvalidText => k_is)
    (case htInvalidText => first | rfl | decide +kernel); (case lInvalidText => k_is); (case cInvalidText => k_is); (case lcInvalidText => k_is); (case ldInvalidText => k_is); (case vfInvalidText => first | exact rfl | decide +kernel)
    (case fiInvalidText => first | rfl | decide +kernel); (case u1InvalidText => decide +kernel); (case u2InvalidText => decide +kernel); (case lnInvalidText => first | rfl | decide +kernel); (case aMe => k_is); (case pgMe => k_is)
    (case hdMe => k_is); (case poMe => k_is); (case saMe => k_is); (case mkMe => k_is); (case kcMe => k_is); (case nMe0 => k_is)
    (case nMe1 => k_is); (case aSe => k_is); (case pgSe => k_is); (case hdSe => k_is); (case poSe => k_is); (case saSe => k_is)
    (case mkSe => k_is); (case kcSe => k_is); (case nSe0 => k_is); (case nSe1 => k_is); (case aAl => k_is); (case pgAl => k_is)
    (case hdAl => k_is); (case poAl => k_is); (case saAl => k_is); (case mkAl => k_is); (case kcAl => k_is); (case nAl0 => k_is)
    (case nAl1 => k_is); (case aTu => k_is); (case pgTu => k_is); (case hdTu => k_is); (case poTu => k_is); (case saTu => k_is)
    (case mkTu => k_is); (case kcTu => k_is); (case nTu0 => k_is); (case nTu1 => k_is); (case icMe => k_is); (case icSe => k_is)
    (case icAl => k_is); (case icTu => k_is); (case aBo => k_is); (case abi => k_is); (case lbi => k_is); (case cbi => k_is)
    (case kbi => k_is); (case tybi => k_is); (case fibi => k_is); (case plMe => k_is); (case plSe => k_is); (case plAl => k_is)
    (case plTu => k_is); (case lpl => k_is); (case cpl => k_is); (case kpl => k_is); (case ipl => k_is); (case scMe => k_is)
    (case scSe => k_is); (case scAl => k_is); (case scTu => k_is); (case pGsc => k_is); (case pTsc => k_is); (case pRsc => k_is)
    (case lnMe => k_is); (case lnSe => k_is); (case lnAl => k_is); (case lnTu => k_is); (case pGln => k_is); (case pTln => k_is)
    (case pRln => k_is); (case lln => k_is); (case cln => k_is); (case kln => k_is); (case ami => k_is); (case imi => k_is)
    (case lmi => k_is); (case cmi => k_is); (case lcmi => k_is); (case ldmi => k_is); (case vfmi => first | exact rfl | decide +kernel); (case femi => first | rfl | decide +kernel)
    (case asi => k_is); (case isi => k_is); (case lsi => k_is); (case csi => k_is); (case lcsi => k_is); (case ldsi => k_is)
    (case vfsi => first | exact rfl | decide +kernel); (case fesi => first | rfl | decide +kernel); (case aai => k_is); (case iai => k_is); (case lai => k_is); (case cai => k_is)
    (case lcai => k_is); (case ldai => k_is); (case vfai => first | exact rfl | decide +kernel); (case feai => first | rfl | decide +kernel); (case ati => k_is); (case iti => k_is)
    (case lti => k_is); (case cti => k_is); (case lcti => k_is); (case ldti => k_is); (case vfti => first | exact rfl | decide +kernel); (case feti => first | rfl | decide +kernel)
    (case nsmo => k_is); (case opq => k_is); (case zsu => k_is); (case htp => first | rfl | decide +kernel); (case tymi => k_is); (case fimi => k_is)
    (case mrMeMe => first | rfl | k_is); (case suMeMe => first | rfl | k_is); (case mrSeMe => first | rfl | k_is); (case suSeMe => first | rfl | k_is); (case mrSeSe => first | rfl | k_is); (case suSeSe => first | rfl | k_is)
    (case mrAlAl => first | rfl | k_is); (case suAlAl => first | rfl | k_is); (case mrTuTu => first | rfl | k_is); (case suTuTu => first | rfl | k_is); (case g9DaybookError => k_is); (case i9DaybookError => k_is)
    (case t9DaybookError => k_is); (case g9DecodeError => k_is); (case i9DecodeError => k_is); (case t9DecodeError => k_is); (case g9InvalidNumber => k_is); (case i9InvalidNumber => k_is)
    (case t9InvalidNumber => k_is); (case g9InvalidOperation => k_is); (case i9InvalidOperation => k_is); (case t9InvalidOperation => k_is); (case g9InvalidPlan => k_is); (case i9InvalidPlan => k_is)
    (case t9InvalidPlan => k_is); (case g9NotEnough => k_is); (case i9NotEnough => k_is); (case t9NotEnough => k_is); (case g9TooFewChairs => k_is); (case i9TooFewChairs => k_is)
    (case t9TooFewChairs => k_is); (case gCE => k_is); (case bCE => k_is); (case dCE => k_is); (case tCE => k_is); (case x5N => k_is)
    (case x6N => k_is); (case es_6_0 => first | rfl | k_is); (case es_6_1 => first | rfl | k_is); (case es_6_2 => first | rfl | k_is); (case es_6_3 => first | rfl | k_is); (case es_6_4 => first | rfl | k_is)
    (case es_6_5 => first | rfl | k_is); (case es_6_7 => first | rfl | k_is); (case es_6_8 => first | rfl | k_is); (case sC_6 => first | rfl | k_is); (case vE_6 => k_is); (case x1_6 => k_is)
    (case x2_6 => k_is); (case x3_6 => k_is); (case x4_6 => k_is); (case x7_6 => k_is); (case nI_6 => k_is); (case nR_6 => k_is)
    (case nO_6 => k_is); (case a_format_bookings => k_is); (case l_format_bookings => k_is); (case c_format_bookings => k_is); (case k_format_bookings => k_is); (case pA => k_is)
    (case pG => k_is); (case pT => k_is); (case pR => k_is); (case lmst => k_is); (case cmst => k_is); (case kmst => k_is)
    (case pg => k_is); (case hd => k_is); (case po => k_is); (case sa => k_is); (case mk => k_is); (case kc => k_is)
    (case nS => k_is); (case rd => k_is); (case ga => k_is); (case v1 => k_is); (case v2 => k_is); (case w2 => k_is)
    (case w3 => k_is); (case aT => k_is); (case lT => k_is); (case q_DIGITS => k_is); (case q_LONG_PART => k_is); (case q_MAX_MEETINGS => k_is)
    (case z0 => k_is); (case z1 => k_is); (case z2 => k_is); (case z3 => k_is); (case z4 => k_is); (case z5 => k_is)
    (case z6 => k_is); (case z7 => k_is); (case z8 => k_is); (case z9 => k_is); (case z10 => k_is); (case z11 => k_is)
    (case z12 => k_is); (case z13 => k_is); (case z14 => k_is); (case z15 => k_is); (case z16 => k_is); (case z17 => k_is)
    (case z18 => k_is)
#print axioms PySem.Challenge.cw_chaircarry_k42_whole_texts_of_bookings_holds
