/- strings.Builder, a block of its own or a field of another: its address asked for, its length. -/
import Derived.Test.YtlhimdjkkiflhaaDoorRows1
import Derived.Test.YtlhimdjkkiflhaaDoorLeafD
import Derived.Lib.Builder
import Derived.Lib.AppendStr
import Derived.Lib.UnsafeStr
import Derived.Laws.Externs
import Derived.KernelRfl
namespace Go.Proofs.YtlhimdjkkiflhaaDoor
open Go.RowKit Go.Loop

/-- where a builder may lie: in a block of this type and size, from this place on -/
structure Lies (T : TypeId) (cells off : Nat) : Prop where
  lies : liesAt Tryd.prog Tryd.prog.depth T (cells / Tryd.prog.cellsOf T) off 58 1 = true
  lt : off < cells
theorem lies_own : Lies 58 2 0 := ⟨by kernel_rfl, by omega⟩
theorem lies_writer : Lies 60 7 4 := ⟨by kernel_rfl, by omega⟩
theorem infoBuilder : (Tryd.prog.info? 58).map (·.size) = some 2 := by kernel_rfl
theorem infoByte : (Tryd.prog.info? 5).map (fun i => (i.zero, i.size, i.bytes)) = some (some (.int .u8 0), 1, 1) := by kernel_rfl

/-- a builder in memory: the cells of its block, its buffer, its bytes -/
structure BldAt (w : World) (T : TypeId) (off B b : Nat) (cs : Array Value) (v : Value) (bs : List Value) : Prop where
  hB : B ≤ b
  blk : w.heap[b]? = some (.cells cs T (0, 0))
  c0 : cs[off]? = some (.pointer none) ∨ cs[off]? = some (.pointer (some ⟨b, off, none⟩))
  c1 : cs[off + 1]? = some v
  own : w.ownsRow B 5 1 v bs.length bs

/-- what is left of the world when it was written to -/
structure BldTo (w w' : World) (b : Nat) (v v' : Value) : Prop where
  os : w'.os = w.os
  tape : w'.tape = w.tape
  output : w'.output = w.output
  size : w.heap.size ≤ w'.heap.size
  block : ∀ k, k < w.heap.size → k ≠ b → some k ≠ v.ownBlock → w'.heap[k]? = w.heap[k]?
  buf : v'.ownBlock = v.ownBlock ∨ ∃ k, v'.ownBlock = some k ∧ w.heap.size ≤ k

theorem BldTo.refl (w : World) (b : Nat) (v : Value) : BldTo w w b v v := ⟨rfl, rfl, rfl, Nat.le_refl _, fun _ _ _ _ => rfl, Or.inl rfl⟩
theorem BldTo.trans {w w' w'' : World} {b : Nat} {v v' v'' : Value} (h : BldTo w w' b v v') (k : BldTo w' w'' b v' v'') : BldTo w w'' b v v'' := by
  refine ⟨k.os.trans h.os, k.tape.trans h.tape, k.output.trans h.output, Nat.le_trans h.size k.size, fun i hi hb hv => ?_, ?_⟩
  · have hne : some i ≠ v'.ownBlock := by
      rcases h.buf with e | ⟨g, e, hg⟩
      · rw [e]; exact hv
      · rw [e]; intro x; simp only [Option.some.injEq] at x; omega
    exact (k.block i (Nat.lt_of_lt_of_le hi h.size) hb hne).trans (h.block i hi hb hv)
  · rcases k.buf with e | ⟨g, e, hg⟩
    · rw [e]; exact h.buf
    · exact Or.inr ⟨g, e, Nat.le_trans h.size hg⟩
theorem BldTo.below {w w' : World} {B b : Nat} {v v' : Value} (h : BldTo w w' b v v') (hB : B ≤ w.heap.size) (hb : B ≤ b) (hv : ∀ k, v.ownBlock = some k → B ≤ k) : Below B w w' :=
  ⟨h.os, h.tape, h.output, h.size, fun k hk => h.block k (by omega) (by omega) (fun e => by have := hv k e.symm; omega)⟩

theorem BldAt.cell {w : World} {T : TypeId} {off B b : Nat} {cs : Array Value} {v : Value} {bs : List Value} (h : BldAt w T off B b cs v bs) (j : Nat) : w.cell? ⟨b, j, none⟩ = cs[j]? := Lib.cell_of_heap h.blk j
theorem BldAt.frozen {w : World} {T : TypeId} {off B b : Nat} {cs : Array Value} {v : Value} {bs : List Value} (h : BldAt w T off B b cs v bs) (j : Nat) : w.frozen? ⟨b, j, none⟩ = false := Lib.frozen_of_heap h.blk j
theorem BldAt.lt {w : World} {T : TypeId} {off B b : Nat} {cs : Array Value} {v : Value} {bs : List Value} (h : BldAt w T off B b cs v bs) : b < w.heap.size := (Array.getElem?_eq_some_iff.1 h.blk).1

set_option maxHeartbeats 1000000 in
set_option maxRecDepth 100000 in
theorem copyCheck_used (b off : Nat) (w : World) (h0 : w.cell? ⟨b, off, none⟩ = some (.pointer (some ⟨b, off, none⟩))) :
    Calls Tryd.prog 72 #[.pointer (some ⟨b, off, none⟩)] w fun e w' => e = .returned (.tuple #[]) ∧ w' = w := by
  obtain ⟨j, hj, _⟩ := Option.map_eq_some_iff.1 infoBuilder
  go_enter Tryd.func72, Tryd.ntmps72
  go_wp2
  rw [Lib.run_neq_ptr_same w _ Tryd.underlying55 hj]
  go_wp2
  go_end0
  exact ⟨rfl, rfl⟩

set_option maxHeartbeats 1000000 in
set_option maxRecDepth 100000 in
theorem copyCheck_fresh (T : TypeId) (cells b off : Nat) (X : Lies T cells off) (w : World) (h0 : w.cell? ⟨b, off, none⟩ = some (.pointer none)) (hsh : w.shape? b = some (T, cells)) (hfz : w.frozen? ⟨b, off, none⟩ = false) :
    Calls Tryd.prog 72 #[.pointer (some ⟨b, off, none⟩)] w fun e w' => e = .returned (.tuple #[]) ∧ w' = w.setCell ⟨b, off, none⟩ (.pointer (some ⟨b, off, none⟩)) := by
  obtain ⟨j, hj, hjs⟩ := Option.map_eq_some_iff.1 infoBuilder
  go_enter Tryd.func72, Tryd.ntmps72
  go_wp2
  rw [Lib.run_to_unsafe w ⟨b, off, none⟩ Tryd.underlying55 Tryd.underlying104 hj (by rw [hjs]; decide) hsh X.lt]
  simp only [Result.andThen]
  rw [Oper.upon_value]
  go_wp2
  rw [run_callFunc_extern Tryd.func84 (by kernel_rfl) (by kernel_rfl) (by kernel_rfl) (e := Extern.AbiNoEscape.same) (by kernel_rfl)]
  rw [Lib.run_noEscape]
  simp only [Result.andThen]
  rw [Oper.upon_value]
  go_wp2
  rw [Lib.run_from_unsafe w ⟨b, off, none⟩ Tryd.underlying104 Tryd.underlying55 hj hsh X.lies]
  simp only [Result.andThen]
  rw [Oper.upon_value]
  go_wp2
  go_end0
  exact ⟨rfl, rfl⟩

/-- the block's cells once copyCheck has been there -/
def usedC (off b : Nat) (cs : Array Value) : Array Value := cs.setIfInBounds off (.pointer (some ⟨b, off, none⟩))

theorem usedC_same {off b : Nat} {cs : Array Value} (h : cs[off]? = some (.pointer (some ⟨b, off, none⟩))) : usedC off b cs = cs := by
  apply Array.ext_getElem?
  intro i
  unfold usedC
  rw [Array.getElem?_setIfInBounds]
  split
  · next e => subst e; obtain ⟨hlt, _⟩ := Array.getElem?_eq_some_iff.1 h; rw [if_pos hlt, h]
  · rfl

set_option maxHeartbeats 1000000 in
theorem copyCheck_any {w : World} {T : TypeId} {off B b : Nat} {cs : Array Value} {v : Value} {bs : List Value} (X : Lies T cs.size off) (hT : T ≠ 5) (h : BldAt w T off B b cs v bs) :
    Calls Tryd.prog 72 #[.pointer (some ⟨b, off, none⟩)] w fun e w' => e = .returned (.tuple #[]) ∧ BldAt w' T off B b (usedC off b cs) v bs ∧ (usedC off b cs)[off]? = some (.pointer (some ⟨b, off, none⟩)) ∧ BldTo w w' b v v := by
  have hlt := X.lt
  rcases h.c0 with h0 | h0
  · refine (copyCheck_fresh T cs.size b off X w ((h.cell off).trans h0) (by simp [World.shape?, h.blk]) (h.frozen off)).mono ?_
    rintro e w' ⟨rfl, rfl⟩
    have hn := Lib.ownBlock_ne h.own h.blk hT
    have hu : (usedC off b cs)[off]? = some (.pointer (some ⟨b, off, none⟩)) := by simp [usedC, hlt]
    refine ⟨rfl, ⟨h.hB, ?_, Or.inr hu, ?_, ?_⟩, hu, ⟨rfl, rfl, rfl, by simp [World.setCell], fun k _ hk _ => Below.heap_setCell _ _ _ _ hk, Or.inl rfl⟩⟩
    · have := heap_setCell_same w b off cs T (.pointer (some ⟨b, off, none⟩)) h.blk
      exact this
    · unfold usedC; rw [Array.getElem?_setIfInBounds, if_neg (by omega)]; exact h.c1
    · exact h.own.kept (row := some b) ⟨rfl, rfl, rfl, by simp [World.setCell], fun k _ hk => Below.heap_setCell _ _ _ _ (fun e => hk (by simp [e]))⟩ (Or.inr hn)
  · refine (copyCheck_used b off w ((h.cell off).trans h0)).mono ?_
    rintro e w' ⟨rfl, rfl⟩
    rw [usedC_same h0]
    exact ⟨rfl, h, h0, BldTo.refl _ _ _⟩

set_option maxHeartbeats 1000000 in
theorem bldLen_any {w : World} {T : TypeId} {off B b : Nat} {cs : Array Value} {v : Value} {bs : List Value} (h : BldAt w T off B b cs v bs) :
    Calls Tryd.prog 54 #[.pointer (some ⟨b, off, none⟩)] w fun e w' => e = .returned (.int .i64 bs.length) ∧ w' = w := by
  have c1 := (h.cell (off + 1)).trans h.c1
  have hown := h.own
  obtain ⟨ao, cap, rfl⟩ : ∃ ao cap, v = .slice ao bs.length cap := by
    rcases hown.2 with ⟨hv, h0⟩ | ⟨g, cap, cur, hv, _⟩
    · exact ⟨none, 0, by rw [hv, h0]⟩
    · exact ⟨_, _, hv⟩
  clear hown h
  go_enter Tryd.func54, Tryd.ntmps54
  go_wp2
  go_ret
  exact ⟨rfl, rfl⟩

section
variable {P : Program}
/-- append of a string's bytes: where the new row lies -/
theorem run_append_str (w : World) (base : Nat) (t u ty e : TypeId) (i : TypeInfo) (ht : P.underlying t = some (.slice e)) (hu : P.underlying u = some .string) (hi : P.info? e = some i) (hz : i.zero = some (.int .u8 0))
    (hsize : i.size = 1) (hby : i.bytes = 1)
    (v : Value) (n : Nat) (xs : List Value) (hown : w.ownsRow base e 1 v n xs) (s : ByteArray)
    (h63 : n + s.size ≤ maxLen) (hbytes : n + s.size ≤ 140737488355328) (hbase : base ≤ w.heap.size) :
    ∃ v' w', (Builtin.append_ #[t, u] ty #[v, .string s]).run P w = .ok v' w' ∧ w'.ownsRow base e 1 v' (n + s.size) (xs ++ Lib.strCells s) ∧ w.grownBy w' v.ownBlock ∧
      (v'.ownBlock = v.ownBlock ∨ ∃ k, v'.ownBlock = some k ∧ w.heap.size ≤ k) := by
  obtain ⟨v', w', hr, h2, h3, h4⟩ := Lib.run_append_own_string (P := P) w base t u ty e i ht hu hi hz hsize hby v n xs hown s h63 hbytes hbase
  refine ⟨v', w', hr, h2, h3, ?_⟩
  have hxl : xs.length = n := by simpa using hown.1
  have hsmall : n + s.size ≤ 9223372036854775807 := by simp only [maxLen] at h63; omega
  rcases hown.2 with ⟨rfl, rfl⟩ | ⟨g, cap, cur, rfl, hbg, hg, hnc, hcm, hcs, htake⟩
  · by_cases hm : s.size = 0
    · have := h4.2 ⟨rfl, hm⟩
      rw [this]; exact Or.inl rfl
    · have hr' := Go.run_append_nil_string (P := P) w t u ty e i (.int .u8 0) ht hu hi hz s (by omega) (by omega) (by rw [hby]; omega)
      rw [hr'] at hr
      injection hr with a b
      rw [← a]
      exact Or.inr ⟨_, rfl, Nat.le_refl _⟩
  · by_cases hroom : n + s.size ≤ cap
    · have hcs' : cur.size = cap := by simpa using hcs
      have hr' := Lib.run_append_room_string (P := P) w t u ty e i ht hu hi hsize g n cap cur hg s hroom (by omega)
      rw [hr'] at hr
      injection hr with a b
      rw [← a]
      exact Or.inl rfl
    · have holds : ∀ j u, xs[j]? = some u → w.cell? ((⟨g, 0, none⟩ : Addr).add j) = some u := hown.cells (g := g) rfl
      have hr' := Lib.run_append_grow_string (P := P) w t u ty e i (.int .u8 0) ht hu hi hz ⟨g, 0, none⟩ n cap xs (by rw [hsize]; simpa using hxl) holds s (by omega) (by omega) (by rw [hby]; exact growslice_fits (by omega) (by omega))
      rw [hr'] at hr
      injection hr with a b
      rw [← a]
      exact Or.inr ⟨_, rfl, Nat.le_refl _⟩

theorem wpList_append_str {w : World} {ops : Array Oper} {rest : List Oper} {o : Oper} {a : Act} {Q : Exit → Act → World → Prop} (hgd : o.guard = none) (sl x : Operand) (t u : TypeId)
    (ho : o.op = .call { callee := .builtin .append, args := #[sl, x], argTypes := #[t, u] })
    (base : Nat) (e : TypeId) (i : TypeInfo) (ht : P.underlying t = some (.slice e)) (hu : P.underlying u = some .string) (hi : P.info? e = some i) (hz : i.zero = some (.int .u8 0))
    (hsize : i.size = 1) (hby : i.bytes = 1)
    (v : Value) (n : Nat) (xs : List Value) (hs : a.eval sl = v) (hown : w.ownsRow base e 1 v n xs) (s : ByteArray) (hx : a.eval x = .string s)
    (h63 : n + s.size ≤ maxLen) (hbytes : n + s.size ≤ 140737488355328) (hbase : base ≤ w.heap.size)
    (h : ∀ v' w', w'.ownsRow base e 1 v' (n + s.size) (xs ++ Lib.strCells s) → w.grownBy w' v.ownBlock → (v'.ownBlock = v.ownBlock ∨ ∃ k, v'.ownBlock = some k ∧ w.heap.size ≤ k) → wpList P ops Q rest (a.put o.dst v') w') : wpList P ops Q (o :: rest) a w := by
  refine wpList_plain hgd fun K hK => ?_
  obtain ⟨v', w', hr, h2, h3, h4⟩ := run_append_str (P := P) w base t u o.type e i ht hu hi hz hsize hby v n xs hown s h63 hbytes hbase
  unfold Oper.wp execOp
  simp only [ho, resolve, invoke, builtin, Sem.run_bind, Sem.run_pure, Result.andThen_ok, List.map_toArray, List.map_cons, List.map_nil, hs, hx, hr]
  exact hK _ _ (h v' w' h2 h3 h4)
end

/-- a new buffer laid into the builder -/
theorem BldAt.put {w w2 : World} {T : TypeId} {off B b : Nat} {cs : Array Value} {v v' : Value} {bs bs' : List Value} (h : BldAt w T off B b cs v bs) (hT : T ≠ 5) (hg : w.grownBy w2 v.ownBlock)
    (hown : w2.ownsRow B 5 1 v' bs'.length bs') (hbuf : v'.ownBlock = v.ownBlock ∨ ∃ k, v'.ownBlock = some k ∧ w.heap.size ≤ k) :
    BldAt (w2.setCell ⟨b, off + 1, none⟩ v') T off B b (cs.setIfInBounds (off + 1) v') v' bs' ∧ BldTo w (w2.setCell ⟨b, off + 1, none⟩ v') b v v' := by
  have hn := Lib.ownBlock_ne h.own h.blk hT
  have hlt := h.lt
  have hb2 : w2.heap[b]? = some (.cells cs T (0, 0)) := (hg.block b hlt (fun e => hn e.symm)).trans h.blk
  have hn2 := Lib.ownBlock_ne hown hb2 hT
  obtain ⟨hl1, _⟩ := Array.getElem?_eq_some_iff.1 h.c1
  refine ⟨⟨h.hB, heap_setCell_same w2 b (off + 1) cs T v' hb2, ?_, ?_, ?_⟩, ⟨hg.os, hg.tape, hg.output, ?_, fun k hk hkb hkv => ?_, hbuf⟩⟩
  · rw [Array.getElem?_setIfInBounds, if_neg (by omega)]; exact h.c0
  · simp [hl1]
  · exact hown.kept (row := some b) ⟨rfl, rfl, rfl, by simp [World.setCell], fun k _ hk => Below.heap_setCell _ _ _ _ (fun e => hk (by simp [e]))⟩ (Or.inr hn2)
  · have := hg.size; simpa [World.setCell] using this
  · rw [Below.heap_setCell _ _ _ _ hkb]; exact hg.block k hk hkv

set_option maxHeartbeats 2000000 in
set_option maxRecDepth 100000 in
theorem writeString_any {w : World} {T : TypeId} {off B b : Nat} {cs : Array Value} {v : Value} {bs : List Value} (X : Lies T cs.size off) (hT : T ≠ 5) (h : BldAt w T off B b cs v bs) (s : ByteArray) (hlen : bs.length + s.size ≤ 140737488355328) (hBw : B ≤ w.heap.size) :
    Calls Tryd.prog 55 #[.pointer (some ⟨b, off, none⟩), .string s] w fun e w' => e = .returned (.tuple #[.int .i64 s.size, .nilIface]) ∧
      ∃ v', BldAt w' T off B b ((usedC off b cs).setIfInBounds (off + 1) v') v' (bs ++ Lib.strCells s) ∧ BldTo w w' b v v' := by
  obtain ⟨i0, hi, hz0, hz1, hz2⟩ := info_parts infoByte
  go_enter Tryd.func55, Tryd.ntmps55
  go_wp2_with (go_at_call 72; refine (copyCheck_any X hT h).mono ?_)
  rintro e w1 ⟨rfl, h1, hc0, ht1⟩
  have c0 : w1.cell? ⟨b, off, none⟩ = some (.pointer (some ⟨b, off, none⟩)) := (h1.cell off).trans hc0
  have c1 : w1.cell? ⟨b, off + 1, none⟩ = some v := (h1.cell (off + 1)).trans h1.c1
  have hs1 := ht1.size
  go_wp2_with (at_builtin; refine wpList_append_str rfl _ _ 56 9 rfl B 5 i0 Tryd.underlying56 Tryd.underlying9 hi hz0 hz1 hz2 _ _ _ rfl h1.own s rfl ?c3 ?c4 ?c5 ?_)
  case c3 => unfold maxLen; omega
  case c4 => omega
  case c5 => omega
  intro v' w2 hown' hgrow hbuf
  obtain ⟨hA, hTo⟩ := h1.put hT hgrow (bs' := bs ++ Lib.strCells s) (by simpa [Lib.strCells_length] using hown') hbuf
  have hn := Lib.ownBlock_ne h1.own h1.blk hT
  have hb2 : w2.heap[b]? = some (.cells (usedC off b cs) T (0, 0)) := (hgrow.block b h1.lt (fun e => hn e.symm)).trans h1.blk
  have d0 : w2.cell? ⟨b, off, none⟩ = some (.pointer (some ⟨b, off, none⟩)) := (Lib.cell_of_heap hb2 _).trans hc0
  have d1 : w2.cell? ⟨b, off + 1, none⟩ = some v := (Lib.cell_of_heap hb2 _).trans h1.c1
  have f1 : w2.frozen? ⟨b, off + 1, none⟩ = false := Lib.frozen_of_heap hb2 _
  obtain ⟨ao, n', cap, rfl⟩ : ∃ ao n' cap, v' = .slice ao n' cap := by
    rcases hown'.2 with ⟨hv, _⟩ | ⟨g, cap, cur, hv, _⟩
    · exact ⟨_, _, _, hv⟩
    · exact ⟨_, _, _, hv⟩
  go_wp2
  go_ret2
  exact ⟨rfl, _, hA, ht1.trans hTo⟩
end Go.Proofs.YtlhimdjkkiflhaaDoor

/- strings.Builder, wherever it lies: WriteByte, String. -/
namespace Go.Proofs.YtlhimdjkkiflhaaDoor
open Go.RowKit Go.Loop

section
variable {P : Program}
/-- append of a row: where the new one lies -/
theorem run_append_row (w : World) (base : Nat) (t ty e : TypeId) (i : TypeInfo) (z : Value) (ht : P.underlying t = some (.slice e)) (hi : P.info? e = some i) (hz : i.zero = some z)
    (hsize : i.size = 1) (hby : i.bytes = 1) (hzs : z.cells.size = 1)
    (v : Value) (n : Nat) (xs : List Value) (hown : w.ownsRow base e 1 v n xs)
    (a : Addr) (m c : Nat) (news : List Value) (hm : m ≠ 0) (hl : news.length = m * 1) (hnews : ∀ j u, news[j]? = some u → w.cell? (a.add j) = some u) (h1 : ∀ u ∈ news, u.oneCell' = true)
    (h63 : n + m ≤ maxLen) (hbytes : (n + m) * 1 ≤ 140737488355328) (hbase : base ≤ w.heap.size) :
    ∃ v' w', (Builtin.append_ #[t, t] ty #[v, .slice (some a) m c]).run P w = .ok v' w' ∧ w'.ownsRow base e 1 v' (n + m) (xs ++ news) ∧ w.grownBy w' v.ownBlock ∧
      (v'.ownBlock = v.ownBlock ∨ ∃ k, v'.ownBlock = some k ∧ w.heap.size ≤ k) := by
  obtain ⟨v', w', hr, h2, h3, h4⟩ := run_append_own (P := P) w base t ty e i z 1 1 ht hi hz hsize hby hzs (by decide) v n xs hown a m c news hl hnews h1 h63 hbytes hbase
  refine ⟨v', w', hr, h2, h3, ?_⟩
  have hsmall : n + m ≤ 9223372036854775807 := by simp only [maxLen] at h63; omega
  rcases hown.2 with ⟨rfl, rfl⟩ | ⟨g, cap, cur, rfl, hbg, hg, hnc, hcm, hcs, htake⟩
  · have hr' := run_append_nil (P := P) w t ty e i z ht hi hz a m c news (by rw [hsize]; exact hl) hnews (by omega) (by omega) (by rw [hby]; omega)
    rw [hr'] at hr
    injection hr with a b
    rw [← a]
    exact Or.inr ⟨_, rfl, Nat.le_refl _⟩
  · by_cases hroom : n + m ≤ cap
    · have hr' := run_append_room (P := P) w t ty e i ht hi g n cap cur hg a m c news (by rw [hsize]; exact hl) hnews h1 hroom (by rw [hsize]; omega)
      rw [hr'] at hr
      injection hr with a b
      rw [← a]
      exact Or.inl rfl
    · have holds : ∀ j u, xs[j]? = some u → w.cell? ((⟨g, 0, none⟩ : Addr).add j) = some u := hown.cells (g := g) rfl
      have hr' := run_append_grow (P := P) w t ty e i z ht hi hz ⟨g, 0, none⟩ n cap xs (by rw [hsize]; exact hown.1) holds a m c news (by rw [hsize]; exact hl) hnews (by omega) (by omega) (by rw [hby]; exact growslice_fits (by omega) hbytes)
      rw [hr'] at hr
      injection hr with a b
      rw [← a]
      exact Or.inr ⟨_, rfl, Nat.le_refl _⟩

theorem wpList_append_row {w : World} {ops : Array Oper} {rest : List Oper} {o : Oper} {a : Act} {Q : Exit → Act → World → Prop} (hgd : o.guard = none) (sl x : Operand) (t : TypeId)
    (ho : o.op = .call { callee := .builtin .append, args := #[sl, x], argTypes := #[t, t] })
    (base : Nat) (e : TypeId) (i : TypeInfo) (z : Value) (ht : P.underlying t = some (.slice e)) (hi : P.info? e = some i) (hz : i.zero = some z)
    (hsize : i.size = 1) (hby : i.bytes = 1) (hzs : z.cells.size = 1)
    (v : Value) (n : Nat) (xs : List Value) (hs : a.eval sl = v) (hown : w.ownsRow base e 1 v n xs)
    (ad : Addr) (m c : Nat) (news : List Value) (hx : a.eval x = .slice (some ad) m c) (hm : m ≠ 0) (hl : news.length = m * 1) (hnews : ∀ j u, news[j]? = some u → w.cell? (ad.add j) = some u) (h1 : ∀ u ∈ news, u.oneCell' = true)
    (h63 : n + m ≤ maxLen) (hbytes : (n + m) * 1 ≤ 140737488355328) (hbase : base ≤ w.heap.size)
    (h : ∀ v' w', w'.ownsRow base e 1 v' (n + m) (xs ++ news) → w.grownBy w' v.ownBlock → (v'.ownBlock = v.ownBlock ∨ ∃ k, v'.ownBlock = some k ∧ w.heap.size ≤ k) → wpList P ops Q rest (a.put o.dst v') w') : wpList P ops Q (o :: rest) a w := by
  refine wpList_plain hgd fun K hK => ?_
  obtain ⟨v', w', hr, h2, h3, h4⟩ := run_append_row (P := P) w base t o.type e i z ht hi hz hsize hby hzs v n xs hown ad m c news hm hl hnews h1 h63 hbytes hbase
  unfold Oper.wp execOp
  simp only [ho, resolve, invoke, builtin, Sem.run_bind, Sem.run_pure, Result.andThen_ok, List.map_toArray, List.map_cons, List.map_nil, hs, hx, hr]
  exact hK _ _ (h v' w' h2 h3 h4)
end

theorem BldAt.alloc {w : World} {T : TypeId} {off B b : Nat} {cs : Array Value} {v : Value} {bs : List Value} (h : BldAt w T off B b cs v bs) (o : Obj) : BldAt (w.alloc o) T off B b cs v bs :=
  ⟨h.hB, (Lib.alloc_old w o b h.lt).trans h.blk, h.c0, h.c1, h.own.alloc o⟩
theorem BldTo.of_below {w w' : World} {b : Nat} {v : Value} (h : Below w.heap.size w w') : BldTo w w' b v v := ⟨h.os, h.tape, h.output, h.size, fun k hk _ _ => h.block k hk, Or.inl rfl⟩

set_option maxHeartbeats 2000000 in
set_option maxRecDepth 100000 in
theorem writeByte_any {w : World} {T : TypeId} {off B b : Nat} {cs : Array Value} {v : Value} {bs : List Value} (X : Lies T cs.size off) (hT : T ≠ 5) (h : BldAt w T off B b cs v bs) (c : Int) (hlen : bs.length + 1 ≤ 140737488355328) (hBw : B ≤ w.heap.size) :
    Calls Tryd.prog 74 #[.pointer (some ⟨b, off, none⟩), .int .u8 c] w fun e w' => e = .returned .nilIface ∧
      ∃ v', BldAt w' T off B b ((usedC off b cs).setIfInBounds (off + 1) v') v' (bs ++ [.int .u8 c]) ∧ BldTo w w' b v v' := by
  obtain ⟨i0, hi, hz0, hz1, hz2⟩ := info_parts infoByte
  go_enter Tryd.func74, Tryd.ntmps74
  go_wp2_with (go_at_call 72; refine (copyCheck_any X hT h).mono ?_)
  rintro e w1 ⟨rfl, h1, hc0, ht1⟩
  have c0 : w1.cell? ⟨b, off, none⟩ = some (.pointer (some ⟨b, off, none⟩)) := (h1.cell off).trans hc0
  have c1 : w1.cell? ⟨b, off + 1, none⟩ = some v := (h1.cell (off + 1)).trans h1.c1
  have hs1 := ht1.size
  go_wp2_with (at_builtin; refine wpList_append_row rfl _ _ 56 rfl B 5 i0 (.int .u8 0) Tryd.underlying56 hi hz0 hz1 hz2 rfl _ _ _ rfl (h1.alloc _).own ⟨w1.heap.size, 0, none⟩ 1 1 [.int .u8 c] rfl (by decide) rfl ?c1 ?c2 ?c3 ?c4 ?c5 ?_)
  case c1 =>
    intro j u hj
    match j, hj with
    | 0, hj => simp at hj; subst hj; simp [Addr.add]
  case c2 => intro u hu; simp at hu; subst hu; rfl
  case c3 => unfold maxLen; omega
  case c4 => omega
  case c5 => simp; omega
  intro v' w2 hown' hgrow hbuf
  have h1a := h1.alloc (.cells #[.int .u8 c] 5)
  obtain ⟨hA, hTo⟩ := h1a.put hT hgrow (bs' := bs ++ [.int .u8 c]) (by simpa using hown') (by simpa using hbuf)
  have hn := Lib.ownBlock_ne h1a.own h1a.blk hT
  have hb2 : w2.heap[b]? = some (.cells (usedC off b cs) T (0, 0)) := (hgrow.block b h1a.lt (fun e => hn e.symm)).trans h1a.blk
  have d0 : w2.cell? ⟨b, off, none⟩ = some (.pointer (some ⟨b, off, none⟩)) := (Lib.cell_of_heap hb2 _).trans hc0
  have d1 : w2.cell? ⟨b, off + 1, none⟩ = some v := (Lib.cell_of_heap hb2 _).trans h1.c1
  have f1 : w2.frozen? ⟨b, off + 1, none⟩ = false := Lib.frozen_of_heap hb2 _
  obtain ⟨ao, n', cap, rfl⟩ : ∃ ao n' cap, v' = .slice ao n' cap := by
    rcases hown'.2 with ⟨hv, _⟩ | ⟨g, cap, cur, hv, _⟩
    · exact ⟨_, _, _, hv⟩
    · exact ⟨_, _, _, hv⟩
  go_wp2
  go_ret
  exact ⟨rfl, _, hA, (ht1.trans (BldTo.of_below ((Below.refl _ _).alloc (Nat.le_refl _) _))).trans hTo⟩

set_option maxHeartbeats 2000000 in
set_option maxRecDepth 100000 in
theorem bldString_any {w : World} {T : TypeId} {off B b : Nat} {cs : Array Value} {v : Value} {l : List UInt8} (h : BldAt w T off B b cs v (Lib.byteCells l)) (h0 : l ≠ []) :
    Calls Tryd.prog 24 #[.pointer (some ⟨b, off, none⟩)] w fun e w' => e = .returned (.string ⟨l.toArray⟩) ∧ BldTo w w' b v v := by
  have hl0 : l.length ≠ 0 := by simpa using h0
  have hown := h.own
  rw [Lib.byteCells_length] at hown
  have hc1 := h.c1
  have hbk := h.blk
  clear h
  obtain ⟨g, cap, cur, rfl, hbg, hg, hnc, hcm, hcs, htake⟩ : ∃ g cap cur, v = .slice (some ⟨g, 0, none⟩) l.length cap ∧ B ≤ g ∧ w.heap[g]? = some (.cells cur 5 (0, 0)) ∧ l.length ≤ cap ∧ cap ≤ maxLen ∧ cur.size = cap * 1 ∧ cur.toList.take (l.length * 1) = Lib.byteCells l := by
    rcases hown.2 with ⟨_, hz⟩ | ⟨g, cap, cur, hv, r⟩
    · exact absurd hz hl0
    · exact ⟨g, cap, cur, hv, r⟩
  have c1 : w.drew.cell? ⟨b, off + 1, none⟩ = some (.slice (some ⟨g, 0, none⟩) l.length cap) := by
    have : w.drew.heap[b]? = some (.cells cs T (0, 0)) := hbk
    rw [Lib.cell_of_heap this]; exact hc1
  have hSD : (Builtin.unsafeSliceData_ #[56] 74 #[.slice (some ⟨g, 0, none⟩) l.length cap]).run Tryd.prog w.drew = .ok (.pointer (some ⟨g, 0, none⟩)) w.drew :=
    Lib.run_unsafeSliceData_row _ _ _ _ _ _ (by omega)
  have hUS : (Builtin.unsafeString_ #[74, 3] 9 #[.pointer (some ⟨g, 0, none⟩), .int .i64 l.length]).run Tryd.prog w.drew = .ok (.string ⟨l.toArray⟩) (w.drew.freeze ⟨g, 0, none⟩ l.length) := by
    refine Lib.run_unsafeString_row w.drew 74 3 9 5 Tryd.underlying74 (by kernel_rfl) g cur.size (by have hg' : w.drew.heap[g]? = some (.cells cur 5 (0, 0)) := hg; simp [World.shape?, hg']) l h0 (by omega) (by unfold maxLen at hcm; omega) ?_
    intro j x hx
    have := hown.cells (g := g) rfl j (.int .u8 x.toNat) (by simp [Lib.byteCells, hx])
    exact this
  have hF : Hid (BldTo w (w.drew.freeze ⟨g, 0, none⟩ l.length) b (.slice (some ⟨g, 0, none⟩) l.length cap) (.slice (some ⟨g, 0, none⟩) l.length cap)) := by
    unfold World.freeze
    split
    · exact ⟨rfl, rfl, rfl, Nat.le_refl _, fun _ _ _ _ => rfl, Or.inl rfl⟩
    · refine ⟨rfl, rfl, rfl, by simp, fun k hk hkb hkv => ?_, Or.inl rfl⟩
      simp only [Array.getElem?_modify]
      rw [if_neg (fun e => hkv (by simp [Value.ownBlock, ← e]))]
      rfl
  clear hown hbk hc1 hg htake
  go_enter Tryd.func24, Tryd.ntmps24
  go_wp2
  go_region
  all_goals (go_wp2; go_ret; exact ⟨rfl, hF.out⟩)
end Go.Proofs.YtlhimdjkkiflhaaDoor
