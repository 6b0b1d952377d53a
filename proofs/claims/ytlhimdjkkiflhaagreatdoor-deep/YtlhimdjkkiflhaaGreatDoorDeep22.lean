import Derived.Lib.Builder
import Derived.Lib.ItoaMem
import Derived.Lib.AppendStr
import Derived.Lib.UnsafeStr
import Derived.Laws.Externs
import Derived.Test.YtlhimdjkkiflhaaGreatDoorDeep21
namespace Go.Proofs.YtlhimdjkkiflhaaGreatDoor
open Go.RowKit Go.Loop
structure Lies (T:TypeId) (cells off:Nat):Prop where
 lies:liesAt Tryz.prog Tryz.prog.depth T (cells/Tryz.prog.cellsOf T) off 116 1=true
 lt:off<cells
theorem lies_own:Lies 116 2 0:=⟨by kernel_rfl,by omega⟩
theorem lies_writer:Lies 118 7 4:=⟨by kernel_rfl,by omega⟩
theorem infoBuilder:(Tryz.prog.info? 116).map (·.size)=some 2:=by kernel_rfl
theorem infoByte:(Tryz.prog.info? 5).map (fun i=>(i.zero,i.size,i.bytes))=some (some (.int .u8 0),1,1):=by kernel_rfl
structure BldAt (w:World) (T:TypeId) (off B b:Nat) (cs:Array Value) (v:Value) (bs:List Value):Prop where
 hB:B≤b
 blk:w.heap[b]? =some (.cells cs T (0,0))
 c0:cs[off]? =some (.pointer none)∨cs[off]? =some (.pointer (some ⟨b,off,none⟩))
 c1:cs[off+1]? =some v
 own:w.ownsRow B 5 1 v bs.length bs
structure BldTo (w w':World) (b:Nat) (v v':Value):Prop where
 os:w'.os=w.os
 tape:w'.tape=w.tape
 output:w'.output=w.output
 size:w.heap.size≤w'.heap.size
 block:∀ k,k<w.heap.size→k≠b→some k≠v.ownBlock→w'.heap[k]? =w.heap[k]?
 buf:v'.ownBlock=v.ownBlock∨∃ k,v'.ownBlock=some k∧w.heap.size≤k
theorem BldTo.refl (w:World)(b:Nat)(v:Value):BldTo w w b v v:=⟨rfl,rfl,rfl,Nat.le_refl _,fun _ _ _ _=>rfl,Or.inl rfl⟩
theorem BldTo.trans {w w' w'':World}{b:Nat}{v v' v'':Value}(h:BldTo w w' b v v')(k:BldTo w' w'' b v' v''):BldTo w w'' b v v'':=by
 refine⟨k.os.trans h.os,k.tape.trans h.tape,k.output.trans h.output,Nat.le_trans h.size k.size,fun i hi hb hv=>?_,?_⟩
 ·have hne:some i≠v'.ownBlock:=by
   rcases h.buf with e|⟨g,e,hg⟩
   ·rw[e];exact hv
   ·rw[e];intro x;simp only[Option.some.injEq] at x;omega
  exact(k.block i (Nat.lt_of_lt_of_le hi h.size) hb hne).trans (h.block i hi hb hv)
 ·rcases k.buf with e|⟨g,e,hg⟩
  ·rw[e];exact h.buf
  ·exact Or.inr ⟨g,e,Nat.le_trans h.size hg⟩
theorem BldTo.below {w w':World}{B b:Nat}{v v':Value}(h:BldTo w w' b v v')(hB:B≤w.heap.size)(hb:B≤b)(hv:∀ k,v.ownBlock=some k→B≤k):Below B w w':=
 ⟨h.os,h.tape,h.output,h.size,fun k hk=>h.block k (by omega) (by omega) (fun e=>by have:=hv k e.symm;omega)⟩
theorem BldAt.cell {w:World}{T:TypeId}{off B b:Nat}{cs:Array Value}{v:Value}{bs:List Value}(h:BldAt w T off B b cs v bs)(j:Nat):w.cell? ⟨b,j,none⟩=cs[j]?:=Lib.cell_of_heap h.blk j
theorem BldAt.frozen {w:World}{T:TypeId}{off B b:Nat}{cs:Array Value}{v:Value}{bs:List Value}(h:BldAt w T off B b cs v bs)(j:Nat):w.frozen? ⟨b,j,none⟩=false:=Lib.frozen_of_heap h.blk j
theorem BldAt.lt {w:World}{T:TypeId}{off B b:Nat}{cs:Array Value}{v:Value}{bs:List Value}(h:BldAt w T off B b cs v bs):b<w.heap.size:=(Array.getElem?_eq_some_iff.1 h.blk).1
set_option maxHeartbeats 1000000 in
set_option maxRecDepth 100000 in
theorem copyCheck_used (b off:Nat)(w:World)(h0:w.cell? ⟨b,off,none⟩=some (.pointer (some ⟨b,off,none⟩))):
 Calls Tryz.prog 189 #[.pointer (some ⟨b,off,none⟩)] w fun e w'=>e= .returned (.tuple #[])∧w'=w:=by
 obtain⟨j,hj,_⟩:=Option.map_eq_some_iff.1 infoBuilder
 go_enter Tryz.func189,Tryz.ntmps189
 go_wp2
 rw[Lib.run_neq_ptr_same w _ Tryz.underlying114 hj]
 go_wp2
 go_end0
 exact⟨rfl,rfl⟩
set_option maxHeartbeats 1000000 in
set_option maxRecDepth 100000 in
theorem copyCheck_fresh (T:TypeId)(cells b off:Nat)(X:Lies T cells off)(w:World)(h0:w.cell? ⟨b,off,none⟩=some (.pointer none))(hsh:w.shape? b=some (T,cells))(hfz:w.frozen? ⟨b,off,none⟩=false):
 Calls Tryz.prog 189 #[.pointer (some ⟨b,off,none⟩)] w fun e w'=>e= .returned (.tuple #[])∧w'=w.setCell ⟨b,off,none⟩ (.pointer (some ⟨b,off,none⟩)):=by
 obtain⟨j,hj,hjs⟩:=Option.map_eq_some_iff.1 infoBuilder
 go_enter Tryz.func189,Tryz.ntmps189
 go_wp2
 rw[Lib.run_to_unsafe w ⟨b,off,none⟩ Tryz.underlying114 Tryz.underlying196 hj (by rw[hjs];decide) hsh X.lt]
 simp only[Result.andThen]
 rw[Oper.upon_value]
 go_wp2
 rw[run_callFunc_extern Tryz.func215 (by kernel_rfl) (by kernel_rfl) (by kernel_rfl) (e:=Extern.AbiNoEscape.same) (by kernel_rfl)]
 rw[Lib.run_noEscape]
 simp only[Result.andThen]
 rw[Oper.upon_value]
 go_wp2
 rw[Lib.run_from_unsafe w ⟨b,off,none⟩ Tryz.underlying196 Tryz.underlying114 hj hsh X.lies]
 simp only[Result.andThen]
 rw[Oper.upon_value]
 go_wp2
 go_end0
 exact⟨rfl,rfl⟩
def usedC (off b:Nat)(cs:Array Value):Array Value:=cs.setIfInBounds off (.pointer (some ⟨b,off,none⟩))
theorem usedC_same {off b:Nat}{cs:Array Value}(h:cs[off]? =some (.pointer (some ⟨b,off,none⟩))):usedC off b cs=cs:=by
 apply Array.ext_getElem?
 intro i
 unfold usedC
 rw[Array.getElem?_setIfInBounds]
 split
 ·next e=>subst e;obtain⟨hlt,_⟩:=Array.getElem?_eq_some_iff.1 h;rw[if_pos hlt,h]
 ·rfl
set_option maxHeartbeats 1000000 in
theorem copyCheck_any {w:World}{T:TypeId}{off B b:Nat}{cs:Array Value}{v:Value}{bs:List Value}(X:Lies T cs.size off)(hT:T≠5)(h:BldAt w T off B b cs v bs):
 Calls Tryz.prog 189 #[.pointer (some ⟨b,off,none⟩)] w fun e w'=>e= .returned (.tuple #[])∧BldAt w' T off B b (usedC off b cs) v bs∧(usedC off b cs)[off]? =some (.pointer (some ⟨b,off,none⟩))∧BldTo w w' b v v:=by
 have hlt:=X.lt
 rcases h.c0 with h0|h0
 ·refine(copyCheck_fresh T cs.size b off X w ((h.cell off).trans h0) (by simp[World.shape?,h.blk]) (h.frozen off)).mono ?_
  rintro e w' ⟨rfl,rfl⟩
  have hn:=Lib.ownBlock_ne h.own h.blk hT
  have hu:(usedC off b cs)[off]? =some (.pointer (some ⟨b,off,none⟩)):=by simp[usedC,hlt]
  refine⟨rfl,⟨h.hB,?_,Or.inr hu,?_,?_⟩,hu,⟨rfl,rfl,rfl,by simp[World.setCell],fun k _ hk _=>Below.heap_setCell _ _ _ _ hk,Or.inl rfl⟩⟩
  ·have:=heap_setCell_same w b off cs T (.pointer (some ⟨b,off,none⟩)) h.blk
   exact this
  ·unfold usedC;rw[Array.getElem?_setIfInBounds,if_neg (by omega)];exact h.c1
  ·exact h.own.kept (row:=some b) ⟨rfl,rfl,rfl,by simp[World.setCell],fun k _ hk=>Below.heap_setCell _ _ _ _ (fun e=>hk (by simp[e]))⟩ (Or.inr hn)
 ·refine(copyCheck_used b off w ((h.cell off).trans h0)).mono ?_
  rintro e w' ⟨rfl,rfl⟩
  rw[usedC_same h0]
  exact⟨rfl,h,h0,BldTo.refl _ _ _⟩
set_option maxHeartbeats 1000000 in
theorem bldLen_any {w:World}{T:TypeId}{off B b:Nat}{cs:Array Value}{v:Value}{bs:List Value}(h:BldAt w T off B b cs v bs):
 Calls Tryz.prog 153 #[.pointer (some ⟨b,off,none⟩)] w fun e w'=>e= .returned (.int .i64 bs.length)∧w'=w:=by
 have c1:=(h.cell (off+1)).trans h.c1
 have hown:=h.own
 obtain⟨ao,cap,rfl⟩:∃ ao cap,v= .slice ao bs.length cap:=by
  rcases hown.2 with⟨hv,h0⟩|⟨g,cap,cur,hv,_⟩
  ·exact⟨none,0,by rw[hv,h0]⟩
  ·exact⟨_,_,hv⟩
 clear hown h
 go_enter Tryz.func153,Tryz.ntmps153
 go_wp2
 go_ret
 exact⟨rfl,rfl⟩
section
variable {P:Program}
theorem run_append_str (w:World)(base:Nat)(t u ty e:TypeId)(i:TypeInfo)(ht:P.underlying t=some (.slice e))(hu:P.underlying u=some .string)(hi:P.info? e=some i)(hz:i.zero=some (.int .u8 0))
 (hsize:i.size=1)(hby:i.bytes=1)
 (v:Value)(n:Nat)(xs:List Value)(hown:w.ownsRow base e 1 v n xs)(s:ByteArray)
 (h63:n+s.size≤maxLen)(hbytes:n+s.size≤140737488355328)(hbase:base≤w.heap.size):
 ∃ v' w',(Builtin.append_ #[t,u] ty #[v,.string s]).run P w= .ok v' w'∧w'.ownsRow base e 1 v' (n+s.size) (xs++Lib.strCells s)∧w.grownBy w' v.ownBlock∧
   (v'.ownBlock=v.ownBlock∨∃ k,v'.ownBlock=some k∧w.heap.size≤k):=by
 obtain⟨v',w',hr,h2,h3,h4⟩:=Lib.run_append_own_string (P:=P) w base t u ty e i ht hu hi hz hsize hby v n xs hown s h63 hbytes hbase
 refine⟨v',w',hr,h2,h3,?_⟩
 have hxl:xs.length=n:=by simpa using hown.1
 have hsmall:n+s.size≤9223372036854775807:=by simp only[maxLen] at h63;omega
 rcases hown.2 with⟨rfl,rfl⟩|⟨g,cap,cur,rfl,hbg,hg,hnc,hcm,hcs,htake⟩
 ·by_cases hm:s.size=0
  ·have:=h4.2 ⟨rfl,hm⟩
   rw[this];exact Or.inl rfl
  ·have hr':=Go.run_append_nil_string (P:=P) w t u ty e i (.int .u8 0) ht hu hi hz s (by omega) (by omega) (by rw[hby];omega)
   rw[hr'] at hr
   injection hr with a b
   rw[←a]
   exact Or.inr ⟨_,rfl,Nat.le_refl _⟩
 ·by_cases hroom:n+s.size≤cap
  ·have hcs':cur.size=cap:=by simpa using hcs
   have hr':=Lib.run_append_room_string (P:=P) w t u ty e i ht hu hi hsize g n cap cur hg s hroom (by omega)
   rw[hr'] at hr
   injection hr with a b
   rw[←a]
   exact Or.inl rfl
  ·have holds:∀ j u,xs[j]? =some u→w.cell? ((⟨g,0,none⟩:Addr).add j)=some u:=hown.cells (g:=g) rfl
   have hr':=Lib.run_append_grow_string (P:=P) w t u ty e i (.int .u8 0) ht hu hi hz ⟨g,0,none⟩ n cap xs (by rw[hsize];simpa using hxl) holds s (by omega) (by omega) (by rw[hby];exact growslice_fits (by omega) (by omega))
   rw[hr'] at hr
   injection hr with a b
   rw[←a]
   exact Or.inr ⟨_,rfl,Nat.le_refl _⟩
theorem wpList_append_str {w:World}{ops:Array Oper}{rest:List Oper}{o:Oper}{a:Act}{Q:Exit→Act→World→Prop}(hgd:o.guard=none)(sl x:Operand)(t u:TypeId)
 (ho:o.op= .call { callee:= .builtin .append,args:=#[sl,x],argTypes:=#[t,u] })
 (base:Nat)(e:TypeId)(i:TypeInfo)(ht:P.underlying t=some (.slice e))(hu:P.underlying u=some .string)(hi:P.info? e=some i)(hz:i.zero=some (.int .u8 0))
 (hsize:i.size=1)(hby:i.bytes=1)
 (v:Value)(n:Nat)(xs:List Value)(hs:a.eval sl=v)(hown:w.ownsRow base e 1 v n xs)(s:ByteArray)(hx:a.eval x= .string s)
 (h63:n+s.size≤maxLen)(hbytes:n+s.size≤140737488355328)(hbase:base≤w.heap.size)
 (h:∀ v' w',w'.ownsRow base e 1 v' (n+s.size) (xs++Lib.strCells s)→w.grownBy w' v.ownBlock→(v'.ownBlock=v.ownBlock∨∃ k,v'.ownBlock=some k∧w.heap.size≤k)→wpList P ops Q rest (a.put o.dst v') w'):wpList P ops Q (o::rest) a w:=by
 refine wpList_plain hgd fun K hK=>?_
 obtain⟨v',w',hr,h2,h3,h4⟩:=run_append_str (P:=P) w base t u o.type e i ht hu hi hz hsize hby v n xs hown s h63 hbytes hbase
 unfold Oper.wp execOp
 simp only[ho,resolve,invoke,builtin,Sem.run_bind,Sem.run_pure,Result.andThen_ok,List.map_toArray,List.map_cons,List.map_nil,hs,hx,hr]
 exact hK _ _ (h v' w' h2 h3 h4)
end
theorem BldAt.put {w w2:World}{T:TypeId}{off B b:Nat}{cs:Array Value}{v v':Value}{bs bs':List Value}(h:BldAt w T off B b cs v bs)(hT:T≠5)(hg:w.grownBy w2 v.ownBlock)
 (hown:w2.ownsRow B 5 1 v' bs'.length bs')(hbuf:v'.ownBlock=v.ownBlock∨∃ k,v'.ownBlock=some k∧w.heap.size≤k):
 BldAt (w2.setCell ⟨b,off+1,none⟩ v') T off B b (cs.setIfInBounds (off+1) v') v' bs'∧BldTo w (w2.setCell ⟨b,off+1,none⟩ v') b v v':=by
 have hn:=Lib.ownBlock_ne h.own h.blk hT
 have hlt:=h.lt
 have hb2:w2.heap[b]? =some (.cells cs T (0,0)):=(hg.block b hlt (fun e=>hn e.symm)).trans h.blk
 have hn2:=Lib.ownBlock_ne hown hb2 hT
 obtain⟨hl1,_⟩:=Array.getElem?_eq_some_iff.1 h.c1
 refine⟨⟨h.hB,heap_setCell_same w2 b (off+1) cs T v' hb2,?_,?_,?_⟩,⟨hg.os,hg.tape,hg.output,?_,fun k hk hkb hkv=>?_,hbuf⟩⟩
 ·rw[Array.getElem?_setIfInBounds,if_neg (by omega)];exact h.c0
 ·simp[hl1]
 ·exact hown.kept (row:=some b) ⟨rfl,rfl,rfl,by simp[World.setCell],fun k _ hk=>Below.heap_setCell _ _ _ _ (fun e=>hk (by simp[e]))⟩ (Or.inr hn2)
 ·have:=hg.size;simpa[World.setCell] using this
 ·rw[Below.heap_setCell _ _ _ _ hkb];exact hg.block k hk hkv
set_option maxHeartbeats 2000000 in
set_option maxRecDepth 100000 in
theorem writeString_any {w:World}{T:TypeId}{off B b:Nat}{cs:Array Value}{v:Value}{bs:List Value}(X:Lies T cs.size off)(hT:T≠5)(h:BldAt w T off B b cs v bs)(s:ByteArray)(hlen:bs.length+s.size≤140737488355328)(hBw:B≤w.heap.size):
 Calls Tryz.prog 154 #[.pointer (some ⟨b,off,none⟩),.string s] w fun e w'=>e= .returned (.tuple #[.int .i64 s.size,.nilIface])∧
  ∃ v',BldAt w' T off B b ((usedC off b cs).setIfInBounds (off+1) v') v' (bs++Lib.strCells s)∧BldTo w w' b v v':=by
 obtain⟨i0,hi,hz0,hz1,hz2⟩:=info_parts infoByte
 go_enter Tryz.func154,Tryz.ntmps154
 go_wp2_with (go_at_call 189;refine(copyCheck_any X hT h).mono ?_)
 rintro e w1 ⟨rfl,h1,hc0,ht1⟩
 have c0:w1.cell? ⟨b,off,none⟩=some (.pointer (some ⟨b,off,none⟩)):=(h1.cell off).trans hc0
 have c1:w1.cell? ⟨b,off+1,none⟩=some v:=(h1.cell (off+1)).trans h1.c1
 have hs1:=ht1.size
 go_wp2_with (at_builtin;refine wpList_append_str rfl _ _ 80 9 rfl B 5 i0 Tryz.underlying80 Tryz.underlying9 hi hz0 hz1 hz2 _ _ _ rfl h1.own s rfl ?c3 ?c4 ?c5 ?_)
 case c3=>unfold maxLen;omega
 case c4=>omega
 case c5=>omega
 intro v' w2 hown' hgrow hbuf
 obtain⟨hA,hTo⟩:=h1.put hT hgrow (bs':=bs++Lib.strCells s) (by simpa[Lib.strCells_length] using hown') hbuf
 have hn:=Lib.ownBlock_ne h1.own h1.blk hT
 have hb2:w2.heap[b]? =some (.cells (usedC off b cs) T (0,0)):=(hgrow.block b h1.lt (fun e=>hn e.symm)).trans h1.blk
 have d0:w2.cell? ⟨b,off,none⟩=some (.pointer (some ⟨b,off,none⟩)):=(Lib.cell_of_heap hb2 _).trans hc0
 have d1:w2.cell? ⟨b,off+1,none⟩=some v:=(Lib.cell_of_heap hb2 _).trans h1.c1
 have f1:w2.frozen? ⟨b,off+1,none⟩=false:=Lib.frozen_of_heap hb2 _
 obtain⟨ao,n',cap,rfl⟩:∃ ao n' cap,v'= .slice ao n' cap:=by
  rcases hown'.2 with⟨hv,_⟩|⟨g,cap,cur,hv,_⟩
  ·exact⟨_,_,_,hv⟩
  ·exact⟨_,_,_,hv⟩
 go_wp2
 go_ret2
 exact⟨rfl,_,hA,ht1.trans hTo⟩
section
variable {P:Program}
theorem run_append_row (w:World)(base:Nat)(t ty e:TypeId)(i:TypeInfo)(z:Value)(ht:P.underlying t=some (.slice e))(hi:P.info? e=some i)(hz:i.zero=some z)
 (hsize:i.size=1)(hby:i.bytes=1)(hzs:z.cells.size=1)
 (v:Value)(n:Nat)(xs:List Value)(hown:w.ownsRow base e 1 v n xs)
 (a:Addr)(m c:Nat)(news:List Value)(hm:m≠0)(hl:news.length=m*1)(hnews:∀ j u,news[j]? =some u→w.cell? (a.add j)=some u)(h1:∀ u∈news,u.oneCell'=true)
 (h63:n+m≤maxLen)(hbytes:(n+m)*1≤140737488355328)(hbase:base≤w.heap.size):
 ∃ v' w',(Builtin.append_ #[t,t] ty #[v,.slice (some a) m c]).run P w= .ok v' w'∧w'.ownsRow base e 1 v' (n+m) (xs++news)∧w.grownBy w' v.ownBlock∧
   (v'.ownBlock=v.ownBlock∨∃ k,v'.ownBlock=some k∧w.heap.size≤k):=by
 obtain⟨v',w',hr,h2,h3,h4⟩:=run_append_own (P:=P) w base t ty e i z 1 1 ht hi hz hsize hby hzs (by decide) v n xs hown a m c news hl hnews h1 h63 hbytes hbase
 refine⟨v',w',hr,h2,h3,?_⟩
 have hsmall:n+m≤9223372036854775807:=by simp only[maxLen] at h63;omega
 rcases hown.2 with⟨rfl,rfl⟩|⟨g,cap,cur,rfl,hbg,hg,hnc,hcm,hcs,htake⟩
 ·have hr':=run_append_nil (P:=P) w t ty e i z ht hi hz a m c news (by rw[hsize];exact hl) hnews (by omega) (by omega) (by rw[hby];omega)
  rw[hr'] at hr
  injection hr with a b
  rw[←a]
  exact Or.inr ⟨_,rfl,Nat.le_refl _⟩
 ·by_cases hroom:n+m≤cap
  ·have hr':=run_append_room (P:=P) w t ty e i ht hi g n cap cur hg a m c news (by rw[hsize];exact hl) hnews h1 hroom (by rw[hsize];omega)
   rw[hr'] at hr
   injection hr with a b
   rw[←a]
   exact Or.inl rfl
  ·have holds:∀ j u,xs[j]? =some u→w.cell? ((⟨g,0,none⟩:Addr).add j)=some u:=hown.cells (g:=g) rfl
   have hr':=run_append_grow (P:=P) w t ty e i z ht hi hz ⟨g,0,none⟩ n cap xs (by rw[hsize];exact hown.1) holds a m c news (by rw[hsize];exact hl) hnews (by omega) (by omega) (by rw[hby];exact growslice_fits (by omega) hbytes)
   rw[hr'] at hr
   injection hr with a b
   rw[←a]
   exact Or.inr ⟨_,rfl,Nat.le_refl _⟩
theorem wpList_append_row {w:World}{ops:Array Oper}{rest:List Oper}{o:Oper}{a:Act}{Q:Exit→Act→World→Prop}(hgd:o.guard=none)(sl x:Operand)(t:TypeId)
 (ho:o.op= .call { callee:= .builtin .append,args:=#[sl,x],argTypes:=#[t,t] })
 (base:Nat)(e:TypeId)(i:TypeInfo)(z:Value)(ht:P.underlying t=some (.slice e))(hi:P.info? e=some i)(hz:i.zero=some z)
 (hsize:i.size=1)(hby:i.bytes=1)(hzs:z.cells.size=1)
 (v:Value)(n:Nat)(xs:List Value)(hs:a.eval sl=v)(hown:w.ownsRow base e 1 v n xs)
 (ad:Addr)(m c:Nat)(news:List Value)(hx:a.eval x= .slice (some ad) m c)(hm:m≠0)(hl:news.length=m*1)(hnews:∀ j u,news[j]? =some u→w.cell? (ad.add j)=some u)(h1:∀ u∈news,u.oneCell'=true)
 (h63:n+m≤maxLen)(hbytes:(n+m)*1≤140737488355328)(hbase:base≤w.heap.size)
 (h:∀ v' w',w'.ownsRow base e 1 v' (n+m) (xs++news)→w.grownBy w' v.ownBlock→(v'.ownBlock=v.ownBlock∨∃ k,v'.ownBlock=some k∧w.heap.size≤k)→wpList P ops Q rest (a.put o.dst v') w'):wpList P ops Q (o::rest) a w:=by
 refine wpList_plain hgd fun K hK=>?_
 obtain⟨v',w',hr,h2,h3,h4⟩:=run_append_row (P:=P) w base t o.type e i z ht hi hz hsize hby hzs v n xs hown ad m c news hm hl hnews h1 h63 hbytes hbase
 unfold Oper.wp execOp
 simp only[ho,resolve,invoke,builtin,Sem.run_bind,Sem.run_pure,Result.andThen_ok,List.map_toArray,List.map_cons,List.map_nil,hs,hx,hr]
 exact hK _ _ (h v' w' h2 h3 h4)
end
theorem BldAt.alloc {w:World}{T:TypeId}{off B b:Nat}{cs:Array Value}{v:Value}{bs:List Value}(h:BldAt w T off B b cs v bs)(o:Obj):BldAt (w.alloc o) T off B b cs v bs:=
 ⟨h.hB,(Lib.alloc_old w o b h.lt).trans h.blk,h.c0,h.c1,h.own.alloc o⟩
theorem BldTo.of_below {w w':World}{b:Nat}{v:Value}(h:Below w.heap.size w w'):BldTo w w' b v v:=⟨h.os,h.tape,h.output,h.size,fun k hk _ _=>h.block k hk,Or.inl rfl⟩
set_option maxHeartbeats 2000000 in
set_option maxRecDepth 100000 in
theorem writeByte_any {w:World}{T:TypeId}{off B b:Nat}{cs:Array Value}{v:Value}{bs:List Value}(X:Lies T cs.size off)(hT:T≠5)(h:BldAt w T off B b cs v bs)(c:Int)(hlen:bs.length+1≤140737488355328)(hBw:B≤w.heap.size):
 Calls Tryz.prog 191 #[.pointer (some ⟨b,off,none⟩),.int .u8 c] w fun e w'=>e= .returned .nilIface∧
  ∃ v',BldAt w' T off B b ((usedC off b cs).setIfInBounds (off+1) v') v' (bs++[.int .u8 c])∧BldTo w w' b v v':=by
 obtain⟨i0,hi,hz0,hz1,hz2⟩:=info_parts infoByte
 go_enter Tryz.func191,Tryz.ntmps191
 go_wp2_with (go_at_call 189;refine(copyCheck_any X hT h).mono ?_)
 rintro e w1 ⟨rfl,h1,hc0,ht1⟩
 have c0:w1.cell? ⟨b,off,none⟩=some (.pointer (some ⟨b,off,none⟩)):=(h1.cell off).trans hc0
 have c1:w1.cell? ⟨b,off+1,none⟩=some v:=(h1.cell (off+1)).trans h1.c1
 have hs1:=ht1.size
 go_wp2_with (at_builtin;refine wpList_append_row rfl _ _ 80 rfl B 5 i0 (.int .u8 0) Tryz.underlying80 hi hz0 hz1 hz2 rfl _ _ _ rfl (h1.alloc _).own ⟨w1.heap.size,0,none⟩ 1 1 [.int .u8 c] rfl (by decide) rfl ?c1 ?c2 ?c3 ?c4 ?c5 ?_)
 case c1=>
  intro j u hj
  match j,hj with
  |0,hj=>simp at hj;subst hj;simp[Addr.add]
 case c2=>intro u hu;simp at hu;subst hu;rfl
 case c3=>unfold maxLen;omega
 case c4=>omega
 case c5=>simp;omega
 intro v' w2 hown' hgrow hbuf
 have h1a:=h1.alloc (.cells #[.int .u8 c] 5)
 obtain⟨hA,hTo⟩:=h1a.put hT hgrow (bs':=bs++[.int .u8 c]) (by simpa using hown') (by simpa using hbuf)
 have hn:=Lib.ownBlock_ne h1a.own h1a.blk hT
 have hb2:w2.heap[b]? =some (.cells (usedC off b cs) T (0,0)):=(hgrow.block b h1a.lt (fun e=>hn e.symm)).trans h1a.blk
 have d0:w2.cell? ⟨b,off,none⟩=some (.pointer (some ⟨b,off,none⟩)):=(Lib.cell_of_heap hb2 _).trans hc0
 have d1:w2.cell? ⟨b,off+1,none⟩=some v:=(Lib.cell_of_heap hb2 _).trans h1.c1
 have f1:w2.frozen? ⟨b,off+1,none⟩=false:=Lib.frozen_of_heap hb2 _
 obtain⟨ao,n',cap,rfl⟩:∃ ao n' cap,v'= .slice ao n' cap:=by
  rcases hown'.2 with⟨hv,_⟩|⟨g,cap,cur,hv,_⟩
  ·exact⟨_,_,_,hv⟩
  ·exact⟨_,_,_,hv⟩
 go_wp2
 go_ret
 exact⟨rfl,_,hA,(ht1.trans (BldTo.of_below ((Below.refl _ _).alloc (Nat.le_refl _) _))).trans hTo⟩
set_option maxHeartbeats 2000000 in
set_option maxRecDepth 100000 in
theorem bldString_any {w:World}{T:TypeId}{off B b:Nat}{cs:Array Value}{v:Value}{l:List UInt8}(h:BldAt w T off B b cs v (Lib.byteCells l))(h0:l≠[]):
 Calls Tryz.prog 63 #[.pointer (some ⟨b,off,none⟩)] w fun e w'=>e= .returned (.string ⟨l.toArray⟩)∧BldTo w w' b v v:=by
 have hl0:l.length≠0:=by simpa using h0
 have hown:=h.own
 rw[Lib.byteCells_length] at hown
 have hc1:=h.c1
 have hbk:=h.blk
 clear h
 obtain⟨g,cap,cur,rfl,hbg,hg,hnc,hcm,hcs,htake⟩:∃ g cap cur,v= .slice (some ⟨g,0,none⟩) l.length cap∧B≤g∧w.heap[g]? =some (.cells cur 5 (0,0))∧l.length≤cap∧cap≤maxLen∧cur.size=cap*1∧cur.toList.take (l.length*1)=Lib.byteCells l:=by
  rcases hown.2 with⟨_,hz⟩|⟨g,cap,cur,hv,r⟩
  ·exact absurd hz hl0
  ·exact⟨g,cap,cur,hv,r⟩
 have c1:w.drew.cell? ⟨b,off+1,none⟩=some (.slice (some ⟨g,0,none⟩) l.length cap):=by
  have:w.drew.heap[b]? =some (.cells cs T (0,0)):=hbk
  rw[Lib.cell_of_heap this];exact hc1
 have hSD:(Builtin.unsafeSliceData_ #[80] 190 #[.slice (some ⟨g,0,none⟩) l.length cap]).run Tryz.prog w.drew= .ok (.pointer (some ⟨g,0,none⟩)) w.drew:=
  Lib.run_unsafeSliceData_row _ _ _ _ _ _ (by omega)
 have hUS:(Builtin.unsafeString_ #[190,3] 9 #[.pointer (some ⟨g,0,none⟩),.int .i64 l.length]).run Tryz.prog w.drew= .ok (.string ⟨l.toArray⟩) (w.drew.freeze ⟨g,0,none⟩ l.length):=by
  refine Lib.run_unsafeString_row w.drew 190 3 9 5 Tryz.underlying190 (by kernel_rfl) g cur.size (by have hg':w.drew.heap[g]? =some (.cells cur 5 (0,0)):=hg;simp[World.shape?,hg']) l h0 (by omega) (by unfold maxLen at hcm;omega) ?_
  intro j x hx
  have:=hown.cells (g:=g) rfl j (.int .u8 x.toNat) (by simp[Lib.byteCells,hx])
  exact this
 have hF:Hid (BldTo w (w.drew.freeze ⟨g,0,none⟩ l.length) b (.slice (some ⟨g,0,none⟩) l.length cap) (.slice (some ⟨g,0,none⟩) l.length cap)):=by
  unfold World.freeze
  split
  ·exact⟨rfl,rfl,rfl,Nat.le_refl _,fun _ _ _ _=>rfl,Or.inl rfl⟩
  ·refine⟨rfl,rfl,rfl,by simp,fun k hk hkb hkv=>?_,Or.inl rfl⟩
   simp only[Array.getElem?_modify]
   rw[if_neg (fun e=>hkv (by simp[Value.ownBlock,←e]))]
   rfl
 clear hown hbk hc1 hg htake
 go_enter Tryz.func63,Tryz.ntmps63
 go_wp2
 go_region
 all_goals (go_wp2;go_ret;exact⟨rfl,hF.out⟩)
set_option maxHeartbeats 1000000 in
theorem bldString_nil {w:World}{b:Nat}(hb:w.heap[b]? =some (.cells #[.pointer none,.slice none 0 0] 116 (0,0))):
 Calls Tryz.prog 63 #[.pointer (some ⟨b,0,none⟩)] w fun e w'=>e= .returned (.string ⟨#[]⟩)∧w'=w.drew:=by
 have c1:w.drew.cell? ⟨b,1,none⟩=some (.slice none 0 0):=by
  have:w.drew.heap[b]? =some (.cells #[.pointer none,.slice none 0 0] 116 (0,0)):=hb
  simp[World.cell?,this]
 have hSD:(Builtin.unsafeSliceData_ #[80] 190 #[.slice none 0 0]).run Tryz.prog w.drew= .ok (.pointer none) w.drew:=Lib.run_unsafeSliceData_nil _ _ _ _ _
 have hUS:(Builtin.unsafeString_ #[190,3] 9 #[.pointer none,.int .i64 0]).run Tryz.prog w.drew= .ok (.string ⟨#[]⟩) w.drew:=
  Lib.run_unsafeString_none _ _ _ _ _
 clear hb
 go_enter Tryz.func63,Tryz.ntmps63
 go_wp2
 go_region
 all_goals (go_wp2;go_ret;exact⟨rfl,rfl⟩)
def TxB (W w:World)(N:Nat)(l:List UInt8):Prop:=N=W.heap.size∧∃ cs v,cs.size=2∧BldAt w 116 0 N N cs v (Lib.byteCells l)∧Below N W w∧(l=[]→cs=#[.pointer none,.slice none 0 0])
theorem TxB.start (W:World):TxB W (W.alloc (.cells #[.pointer none,.slice none 0 0] 116)) W.heap.size []:=
 ⟨rfl,_,_,rfl,⟨Nat.le_refl _,heap_alloc_new W _,Or.inl rfl,rfl,World.ownsRow_nil _ _ _ _⟩,(Below.refl _ _).alloc (Nat.le_refl _) _,fun _=>rfl⟩
theorem TxB.writeByte {W w:World}{N:Nat}{l:List UInt8}(h:TxB W w N l)(c:UInt8)(hl:l.length≤2000000):
 Calls Tryz.prog 191 #[.pointer (some ⟨N,0,none⟩),.int .u8 c.toNat] w fun e w'=>e= .returned .nilIface∧TxB W w' N (l++[c]):=by
 obtain⟨rfl,cs,v,hs,hb,hw,_⟩:=h
 have hsz:=hw.size
 refine(writeByte_any (hs▸lies_own) (by decide) hb c.toNat (by rw[Lib.byteCells_length];omega) hsz).mono ?_
 rintro e w' ⟨rfl,v',h1,h2⟩
 refine⟨rfl,rfl,_,v',?_,by rw[Lib.byteCells_append];exact h1,hw.trans (h2.below hsz (Nat.le_refl _) fun k hk=>(hb.own.lt k hk).1),fun h=>by simp at h⟩
 simp[usedC,hs]
theorem TxB.string {W w:World}{N:Nat}{l:List UInt8}(h:TxB W w N l):
 Calls Tryz.prog 63 #[.pointer (some ⟨N,0,none⟩)] w fun e w'=>e= .returned (.string ⟨⟨l⟩⟩)∧Below W.heap.size W w':=by
 obtain⟨rfl,cs,v,hs,hb,hw,h0⟩:=h
 by_cases hl:l=[]
 ·subst hl
  have hblk:=hb.blk
  rw[h0 rfl] at hblk
  refine(bldString_nil hblk).mono ?_
  rintro e w' ⟨rfl,rfl⟩
  exact⟨rfl,hw.drew⟩
 ·refine(bldString_any hb hl).mono ?_
  rintro e w' ⟨rfl,h2⟩
  exact⟨rfl,hw.trans (h2.below hw.size (Nat.le_refl _) fun k hk=>(hb.own.lt k hk).1)⟩
theorem TxB.below {W w:World}{N:Nat}{l:List UInt8}(h:TxB W w N l):Below W.heap.size W w:=by
 obtain⟨rfl,_,_,_,_,hw,_⟩:=h
 exact hw
theorem tx_end {k:Nat}{o:List UInt8}{c:UInt8}{r:List UInt8}(h:c=34):textL k o (c::r)= .ok (k+1) o:=by
 cases r<;>simp[textL,h]
theorem tx_cut {k:Nat}{o:List UInt8}:textL k o [92]= .fin:=rfl
theorem tx_bad {k:Nat}{o:List UInt8}{x:UInt8}{r:List UInt8}(h:escB x=none):textL k o (92::x::r)= .bad:=by
 rw[textL,if_neg (by decide),if_pos rfl,h]
theorem tx_esc {k:Nat}{o:List UInt8}{x b:UInt8}{r:List UInt8}(h:escB x=some b):textL k o (92::x::r)=textL (k+2) (o++[b]) r:=by
 rw[textL,if_neg (by decide),if_pos rfl,h]
theorem tx_else {k:Nat}{o:List UInt8}{c:UInt8}{r:List UInt8}(h1:¬ c=34)(h2:¬ c=92):textL k o (c::r)=textL (k+1) (o++[c]) r:=by
 cases r with
 |nil=>simp[textL,h1]
 |cons e r=>rw[textL,if_neg h1,if_neg h2]
def T0:Obj:= .cells #[.int .i64 0,.int .i64 0,.int .i64 0,.string ⟨#[]⟩,.int .i64 0,.int .i64 0,.int .i64 0] 131
theorem u8_eq {c:UInt8}{n:Nat}(hn:n<256):(c.toNat:Int)=(n:Int)↔c=n.toUInt8:=by
 rw[←UInt8.toNat_inj]
 simp[Nat.mod_eq_of_lt hn]
 omega
set_option maxHeartbeats 4000000 in
set_option maxRecDepth 100000 in
theorem scanText_any (s:ByteArray)(a:Nat)(w:World)(hs:s.size≤1000000)(ha:a<s.size):
 Calls Tryz.prog 169 #[.string s,.int .i64 a] w fun e w'=>e= .returned (tkV (textP s.data.toList a))∧Below w.heap.size w w':=by
 have hT:Hid (textP s.data.toList a=match textL (a+1) [] (s.data.toList.drop (a+1)) with| .fin=>endP s.data.toList| .bad=>wrongP a| .ok e b=>{ tok0 8 a e with text:=b }):=rfl
 have H0:Hid (TxB (w.alloc T0) ((w.alloc T0).alloc (.cells #[.pointer none,.slice none 0 0] 116)) (w.heap.size+1) []):=by
  have:=TxB.start (w.alloc T0)
  rw[show(w.alloc T0).heap.size=w.heap.size+1 by simp] at this
  exact this
 have hblk:Hid ((w.alloc T0).heap[w.heap.size]? =some T0):=heap_alloc_new w _
 have hw0:Hid (Below w.heap.size w (w.alloc T0)):=(Below.refl _ w).alloc (Nat.le_refl _) _
 go_enter Tryz.func169,Tryz.ntmps169
 go_wp2_with fail
 go_loopw [6] (fun i wr=>∃ (k:Nat) (o:List UInt8),a+1≤k∧k≤s.size∧i= .int .i64 k∧o.length≤k∧Hid (TxB (w.alloc T0) wr (w.heap.size+1) o)∧Hid (textL (a+1) [] (s.data.toList.drop (a+1))=textL k o (s.data.toList.drop k))) (fun i _=>s.size-(intOf i).toNat)
 case atStart=>exact⟨a+1,[],Nat.le_refl _,by omega,by go_num,by simp,H0.out,rfl⟩
 case round=>
  obtain⟨k,o,hk0,hk,rfl,hlo,H2,hr⟩:=hrel
  by_cases hlt:k<s.size
  ·have hd:Hid _:=drop_cons s k hlt
   by_cases h34:(s[k].toNat :Int)=34
   ·have he:Hid (textP s.data.toList a={ tok0 8 a (k+1) with text:=o }):=by
     show _=_
     rw[hT.out,hr.out,hd.out,tx_end ((u8_eq (by decide:34<256)).1 h34)]
    go_wp2_with fail
    refine(H2.out.string).mono ?_
    rintro e w1 ⟨rfl,hb⟩
    obtain⟨⟨x0,x1,x2,x3,x4,x5,x6⟩,f0,f1,f2,f3,f4,f5,f6⟩:=cells7 (b:=w.heap.size) hb hblk.out
    have HB:Hid (Below w.heap.size w w1):=hw0.out.trans (hb.mono (by simp))
    clear hb
    go_wp2_with fail
    exact bodyPost_ret (v:=tkV { tok0 8 a (k+1) with text:=o }) (by simp[results,Tryz.results169,tkV,tok0,go_sem, *]) rfl ⟨by rw[he.out],below7 HB.out _ _ _ _ _ _ _⟩
   by_cases h92:(s[k].toNat :Int)=92
   ·have h92':Hid (s[k]=92):=(u8_eq (by decide:92<256)).1 h92
    by_cases hlt2:k+1<s.size
    ·have hd2:Hid _:=drop_cons s (k+1) hlt2
     cases hes:escB s[k+1] with
     |none=>
      have he:Hid (textP s.data.toList a=wrongP a):=by
       show _=_
       rw[hT.out,hr.out,hd.out,h92'.out,hd2.out,tx_bad hes]
      have hes':Hid _:=hes
      go_wp2_with fail
      refine(escaped_any _ _).mono ?_
      rw[hes'.out];rintro e w' ⟨rfl,rfl⟩
      go_wp2_with fail
      refine(wrong_any _ _).mono ?_
      rintro e w1 ⟨rfl,hb1⟩
      have hb:=H2.out.below.trans (hb1.mono H2.out.below.size)
      obtain⟨⟨x0,x1,x2,x3,x4,x5,x6⟩,f0,f1,f2,f3,f4,f5,f6⟩:=cells7 (b:=w.heap.size) hb hblk.out
      have HB:Hid (Below w.heap.size w w1):=hw0.out.trans (hb.mono (by simp))
      clear hb hb1
      unfold tkV
      go_wp2_with fail
      exact bodyPost_ret (v:=tkV (wrongP a)) (by simp[results,Tryz.results169,tkV,tok0,wrongP,go_sem, *]) rfl ⟨by rw[he.out],below7 HB.out _ _ _ _ _ _ _⟩
     |some b=>
      have hnx:Hid (textL (a+1) [] (s.data.toList.drop (a+1))=textL (k+2) (o++[b]) (s.data.toList.drop (k+2))):=by
       show _=_
       rw[hr.out,hd.out,h92'.out,hd2.out,tx_esc hes]
      have hes':Hid _:=hes
      go_wp2_with fail
      refine(escaped_any _ _).mono ?_
      rw[hes'.out];rintro e w' ⟨rfl,rfl⟩
      go_wp2_with fail
      refine(H2.out.writeByte b (by omega)).mono ?_
      rintro e w2 ⟨rfl,h2⟩
      have H3:Hid _:=h2
      clear h2 H2
      go_wp2_with fail
      go_roundw
      case rel=>exact⟨k+2,o++[b],by omega,by omega,by go_num,by simp;omega,H3.out,hnx.out⟩
      case measure=>simp[intOf];omega
    ·have hk1:k+1=s.size:=by omega
     have he:Hid (textP s.data.toList a=endP s.data.toList):=by
      show _=_
      rw[hT.out,hr.out,hd.out,h92'.out,show s.data.toList.drop (k+1)=[] from List.drop_of_length_le (by rw[len_data];omega),tx_cut]
     have q:(((k:Int)+1)==(s.size:Int))=true:=by rw[beq_iff_eq];omega
     go_wp2_with fail
     refine(endOf_any _ _).mono ?_
     rintro e w1 ⟨rfl,hb1⟩
     have hb:=H2.out.below.trans (hb1.mono H2.out.below.size)
     obtain⟨⟨x0,x1,x2,x3,x4,x5,x6⟩,f0,f1,f2,f3,f4,f5,f6⟩:=cells7 (b:=w.heap.size) hb hblk.out
     have HB:Hid (Below w.heap.size w w1):=hw0.out.trans (hb.mono (by simp))
     clear hb hb1
     unfold tkV
     go_wp2_with fail
     exact bodyPost_ret (v:=tkV (endP s.data.toList)) (by simp[results,Tryz.results169,tkV,tok0,endP,go_sem, *]) rfl ⟨by rw[he.out],below7 HB.out _ _ _ _ _ _ _⟩
   ·have hnx:Hid (textL (a+1) [] (s.data.toList.drop (a+1))=textL (k+1) (o++[s[k]]) (s.data.toList.drop (k+1))):=by
     show _=_
     rw[hr.out,hd.out,tx_else (fun e=>h34 ((u8_eq (by decide:34<256)).2 e)) (fun e=>h92 ((u8_eq (by decide:92<256)).2 e))]
    have q1:((s[k].toNat :Int)==34)=false:=by rw[beq_eq_false_iff_ne];exact h34
    have q2:((s[k].toNat :Int)==92)=false:=by rw[beq_eq_false_iff_ne];exact h92
    go_wp2_with fail
    refine(H2.out.writeByte s[k] (by omega)).mono ?_
    rintro e w2 ⟨rfl,h2⟩
    have H3:Hid _:=h2
    clear h2 H2
    go_wp2_with fail
    go_roundw
    case rel=>exact⟨k+1,o++[s[k]],by omega,by omega,by go_num,by simp;omega,H3.out,hnx.out⟩
    case measure=>simp[intOf];omega
  ·have he:Hid (textP s.data.toList a=endP s.data.toList):=by
    show _=_
    rw[hT.out,hr.out,show s.data.toList.drop k=[] from List.drop_of_length_le (by rw[len_data];omega)]
    rfl
   go_wp2_with fail
   refine(endOf_any _ _).mono ?_
   rintro e w1 ⟨rfl,hb1⟩
   have hb:=H2.out.below.trans (hb1.mono H2.out.below.size)
   obtain⟨⟨x0,x1,x2,x3,x4,x5,x6⟩,f0,f1,f2,f3,f4,f5,f6⟩:=cells7 (b:=w.heap.size) hb hblk.out
   have HB:Hid (Below w.heap.size w w1):=hw0.out.trans (hb.mono (by simp))
   clear hb hb1
   unfold tkV
   go_wp2_with fail
   exact bodyPost_ret (v:=tkV (endP s.data.toList)) (by simp[results,Tryz.results169,tkV,tok0,endP,go_sem, *]) rfl ⟨by rw[he.out],below7 HB.out _ _ _ _ _ _ _⟩
set_option maxHeartbeats 2000000 in
theorem scanChar_any (s:ByteArray)(a:Nat)(w:World)(hs:s.size≤1000000)(ha:a+2≤s.size):
 Calls Tryz.prog 198 #[.string s,.int .i64 a] w fun e w'=>e= .returned (tkV (charP s.data.toList a))∧Below w.heap.size w w':=by
 have hle:=runL_le letB (s.data.toList.drop (a+2))
 rw[List.length_drop,len_data] at hle
 have hT:Hid (charP s.data.toList a=if 1<runL letB (s.data.toList.drop (a+2)) then(match codeP (cutP s.data.toList (a+2) (a+2+runL letB (s.data.toList.drop (a+2)))) with|none=>wrongP a|some k=>{ tok0 9 a (a+2+runL letB (s.data.toList.drop (a+2))) with n:=k }) else match s.data.toList.drop (a+2) with|[]=>wrongP a|c::_=>if 33≤c.toNat∧c.toNat≤126 then { tok0 9 a (a+3) with n:=(c.toNat:Int) } else wrongP a):=rfl
 generalize hk:runL letB (s.data.toList.drop (a+2))=k at *
 have HK:Hid _:=hk
 clear hk
 by_cases h1:1<k
 ·have hcd:Hid ((s.extract (a+2) (a+2+k)).data.toList=cutP s.data.toList (a+2) (a+2+k)):=cut_data _ _ _
  cases hc:codeP (cutP s.data.toList (a+2) (a+2+k)) with
  |none=>
   have e:Hid (charP s.data.toList a=wrongP a):=by show _=_;rw[hT.out,if_pos h1,hc]
   clear hT
   go_enter Tryz.func198,Tryz.ntmps198
   go_wp2_with (go_at_call 148;refine(runEnd_letter _ _ _ (by unfold maxLen;omega) (by omega) (by omega)).mono ?_;rintro e w' ⟨rfl,rfl⟩;rw[show((a:Int)+2).toNat=a+2 by omega,HK.out])
   refine(codeOf_any _ _).mono ?_
   rw[hcd.out,hc];rintro e w' ⟨rfl,rfl⟩
   go_wp2_with fail
   refine(wrong_any _ _).mono ?_
   rintro e w1 ⟨rfl,hb⟩
   obtain⟨⟨x0,x1,x2,x3,x4,x5,x6⟩,f0,f1,f2,f3,f4,f5,f6⟩:=cells7 (b:=w.heap.size) hb (heap_alloc_new w _)
   have HB:Hid (Below w.heap.size w w1):=((Below.refl _ w).alloc (Nat.le_refl _) _).trans (hb.mono (by simp))
   clear hb
   unfold tkV
   go_wp2_with fail
   exact bodyPost_ret (v:=tkV (wrongP a)) (by simp[results,Tryz.results198,tkV,tok0,wrongP,go_sem, *]) rfl ⟨by rw[e.out],below7 HB.out _ _ _ _ _ _ _⟩
  |some n=>
   have e:Hid (charP s.data.toList a={ tok0 9 a (a+2+k) with n:=n }):=by show _=_;rw[hT.out,if_pos h1,hc]
   clear hT
   go_enter Tryz.func198,Tryz.ntmps198
   go_wp2_with (go_at_call 148;refine(runEnd_letter _ _ _ (by unfold maxLen;omega) (by omega) (by omega)).mono ?_;rintro e w' ⟨rfl,rfl⟩;rw[show((a:Int)+2).toNat=a+2 by omega,HK.out])
   refine(codeOf_any _ _).mono ?_
   rw[hcd.out,hc];rintro e w' ⟨rfl,rfl⟩
   go_wp2_with fail
   refine bodyPost_ret (v:=tkV { tok0 9 a (a+2+k) with n:=n }) (by simp[results,Tryz.results198,tkV,tok0,go_sem]) rfl ⟨by rw[e.out],?_⟩
   (repeat (first|with_reducible refine Below.setCell ?_ (by simp) _|with_reducible refine Below.alloc ?_ (by simp) _));with_reducible exact Below.refl _ _
 by_cases hlt:a+2<s.size
 ·have hd:=drop_cons s (a+2) hlt
  have hwr:wrap64 (s[a+2].toNat :Int)=(s[a+2].toNat :Int):=by have:=s[a+2].toNat_lt;unfold wrap64;omega
  by_cases hp:33≤(s[a+2].toNat :Int)∧(s[a+2].toNat :Int)≤126
  ·have e:Hid (charP s.data.toList a={ tok0 9 a (a+3) with n:=(s[a+2].toNat :Int) }):=by show _=_;rw[hT.out,if_neg h1,hd];exact if_pos ⟨by omega,by omega⟩
   have hp':Hid (decide (33≤(s[a+2].toNat :Int)∧(s[a+2].toNat :Int)≤126)=true):=decide_eq_true hp
   clear hT hd hp
   go_enter Tryz.func198,Tryz.ntmps198
   go_wp2_with (go_at_call 148;refine(runEnd_letter _ _ _ (by unfold maxLen;omega) (by omega) (by omega)).mono ?_;rintro e w' ⟨rfl,rfl⟩;rw[show((a:Int)+2).toNat=a+2 by omega,HK.out])
   refine(isOwnChar_any _ _).mono ?_
   rw[hp'.out];rintro e w' ⟨rfl,rfl⟩
   go_wp2_with fail
   refine bodyPost_ret (v:=tkV { tok0 9 a (a+3) with n:=(s[a+2].toNat :Int) }) (by simp[results,Tryz.results198,tkV,tok0,go_sem];try omega) rfl ⟨by rw[e.out],?_⟩
   (repeat (first|with_reducible refine Below.setCell ?_ (by simp) _|with_reducible refine Below.alloc ?_ (by simp) _));with_reducible exact Below.refl _ _
  ·have e:Hid (charP s.data.toList a=wrongP a):=by show _=_;rw[hT.out,if_neg h1,hd];exact if_neg (by omega)
   have hp':Hid (decide (33≤(s[a+2].toNat :Int)∧(s[a+2].toNat :Int)≤126)=false):=decide_eq_false hp
   clear hT hd hp
   go_enter Tryz.func198,Tryz.ntmps198
   go_wp2_with (go_at_call 148;refine(runEnd_letter _ _ _ (by unfold maxLen;omega) (by omega) (by omega)).mono ?_;rintro e w' ⟨rfl,rfl⟩;rw[show((a:Int)+2).toNat=a+2 by omega,HK.out])
   refine(isOwnChar_any _ _).mono ?_
   rw[hp'.out];rintro e w' ⟨rfl,rfl⟩
   go_wp2_with fail
   refine(wrong_any _ _).mono ?_
   rintro e w1 ⟨rfl,hb⟩
   obtain⟨⟨x0,x1,x2,x3,x4,x5,x6⟩,f0,f1,f2,f3,f4,f5,f6⟩:=cells7 (b:=w.heap.size) hb (heap_alloc_new w _)
   have HB:Hid (Below w.heap.size w w1):=((Below.refl _ w).alloc (Nat.le_refl _) _).trans (hb.mono (by simp))
   clear hb
   unfold tkV
   go_wp2_with fail
   exact bodyPost_ret (v:=tkV (wrongP a)) (by simp[results,Tryz.results198,tkV,tok0,wrongP,go_sem, *]) rfl ⟨by rw[e.out],below7 HB.out _ _ _ _ _ _ _⟩
 ·have hd:s.data.toList.drop (a+2)=[]:=List.drop_of_length_le (by rw[len_data];omega)
  have e:Hid (charP s.data.toList a=wrongP a):=by show _=_;rw[hT.out,if_neg h1,hd]
  clear hT hd
  go_enter Tryz.func198,Tryz.ntmps198
  go_wp2_with (go_at_call 148;refine(runEnd_letter _ _ _ (by unfold maxLen;omega) (by omega) (by omega)).mono ?_;rintro e w' ⟨rfl,rfl⟩;rw[show((a:Int)+2).toNat=a+2 by omega,HK.out])
  refine(wrong_any _ _).mono ?_
  rintro e w1 ⟨rfl,hb⟩
  obtain⟨⟨x0,x1,x2,x3,x4,x5,x6⟩,f0,f1,f2,f3,f4,f5,f6⟩:=cells7 (b:=w.heap.size) hb (heap_alloc_new w _)
  have HB:Hid (Below w.heap.size w w1):=((Below.refl _ w).alloc (Nat.le_refl _) _).trans (hb.mono (by simp))
  clear hb
  unfold tkV
  go_wp2_with fail
  exact bodyPost_ret (v:=tkV (wrongP a)) (by simp[results,Tryz.results198,tkV,tok0,wrongP,go_sem, *]) rfl ⟨by rw[e.out],below7 HB.out _ _ _ _ _ _ _⟩
theorem hash_label {s:ByteArray}{a:Nat}(h:∀ c r,s.data.toList.drop (a+1)=c::r→¬ c.toNat=40∧¬ c.toNat=59∧¬ c.toNat=92):hashP s.data.toList a=(labelP s.data.toList a).getD (truthP s.data.toList a):=by
 unfold hashP
 split
 ·rfl
 ·rename_i c r hd
  obtain⟨h1,h2,h3⟩:=h c r hd
  rw[if_neg h1,if_neg h2,if_neg h3]
set_option maxHeartbeats 4000000 in
theorem scanHash_any (s:ByteArray)(a:Nat)(w:World)(hs:s.size≤1000000)(ha:a<s.size):
 Calls Tryz.prog 170 #[.string s,.int .i64 a] w fun e w'=>e= .returned (tkV (hashP s.data.toList a))∧Below w.heap.size w w':=by
 by_cases hlt:a+1<s.size
 ·have hd:=drop_cons s (a+1) hlt
  have hT:Hid (hashP s.data.toList a=if s[a+1].toNat=40 then tok0 5 a (a+2) else if s[a+1].toNat=59 then tok0 6 a (a+2) else if s[a+1].toNat=92 then charP s.data.toList a else(labelP s.data.toList a).getD (truthP s.data.toList a)):=by
   show _=_
   unfold hashP
   rw[hd]
  clear hd
  by_cases h40:(s[a+1].toNat :Int)=40
  ·have e:Hid (hashP s.data.toList a=tok0 5 a (a+2)):=by show _=_;rw[hT.out,if_pos (by omega)]
   go_enter Tryz.func170,Tryz.ntmps170
   go_wp2_with fail
   refine bodyPost_ret (v:=tkV (tok0 5 a (a+2))) (by simp[results,Tryz.results170,tkV,tok0,go_sem]) rfl ⟨by rw[e.out],?_⟩
   (repeat (first|with_reducible refine Below.setCell ?_ (by simp) _|with_reducible refine Below.alloc ?_ (by simp) _));with_reducible exact Below.refl _ _
  have q1:((s[a+1].toNat :Int)==40)=false:=by rw[beq_eq_false_iff_ne];exact h40
  by_cases h59:(s[a+1].toNat :Int)=59
  ·have e:Hid (hashP s.data.toList a=tok0 6 a (a+2)):=by show _=_;rw[hT.out,if_neg (by omega),if_pos (by omega)]
   clear q1
   go_enter Tryz.func170,Tryz.ntmps170
   go_wp2_with fail
   refine bodyPost_ret (v:=tkV (tok0 6 a (a+2))) (by simp[results,Tryz.results170,tkV,tok0,go_sem]) rfl ⟨by rw[e.out],?_⟩
   (repeat (first|with_reducible refine Below.setCell ?_ (by simp) _|with_reducible refine Below.alloc ?_ (by simp) _));with_reducible exact Below.refl _ _
  have q2:((s[a+1].toNat :Int)==59)=false:=by rw[beq_eq_false_iff_ne];exact h59
  by_cases h92:(s[a+1].toNat :Int)=92
  ·have e:Hid (hashP s.data.toList a=charP s.data.toList a):=by show _=_;rw[hT.out,if_neg (by omega),if_neg (by omega),if_pos (by omega)]
   clear q1 q2
   go_enter Tryz.func170,Tryz.ntmps170
   go_wp2_with fail
   refine(scanChar_any _ _ _ hs (by omega)).mono ?_
   rintro e w1 ⟨rfl,hb⟩
   obtain⟨⟨x0,x1,x2,x3,x4,x5,x6⟩,f0,f1,f2,f3,f4,f5,f6⟩:=cells7 (b:=w.heap.size) hb (heap_alloc_new w _)
   have HB:Hid (Below w.heap.size w w1):=((Below.refl _ w).alloc (Nat.le_refl _) _).trans (hb.mono (by simp))
   clear hb
   unfold tkV
   go_wp2_with fail
   exact bodyPost_ret (v:=tkV (charP s.data.toList a)) (by simp[results,Tryz.results170,tkV,go_sem, *]) rfl ⟨by rw[e.out],below7 HB.out _ _ _ _ _ _ _⟩
  have q3:((s[a+1].toNat :Int)==92)=false:=by rw[beq_eq_false_iff_ne];exact h92
  have e0:Hid (hashP s.data.toList a=(labelP s.data.toList a).getD (truthP s.data.toList a)):=by show _=_;rw[hT.out,if_neg (by omega),if_neg (by omega),if_neg (by omega)]
  clear hT h40 h59 h92
  cases hl:labelP s.data.toList a with
  |some t=>
   have e:Hid (hashP s.data.toList a=t):=by show _=_;rw[e0.out,hl];rfl
   have hl':Hid _:=hl
   clear hl e0
   go_enter Tryz.func170,Tryz.ntmps170
   go_wp2_with fail
   refine(scanLabel_any _ _ _ hs (by omega)).mono ?_
   rw[hl'.out];rintro e w1 ⟨rfl,hb⟩
   obtain⟨⟨x0,x1,x2,x3,x4,x5,x6⟩,f0,f1,f2,f3,f4,f5,f6⟩:=cells7 (b:=w.heap.size) hb (heap_alloc_new w _)
   have HB:Hid (Below w.heap.size w w1):=((Below.refl _ w).alloc (Nat.le_refl _) _).trans (hb.mono (by simp))
   have hs1:w.heap.size<w1.heap.size:=by have:=hb.size;simp at this;omega
   have hn1:¬ w.heap.size=w1.heap.size:=by omega
   have hn2:¬ w1.heap.size=w.heap.size:=by omega
   clear hb
   simp only[Option.getD_some,Option.isSome_some]
   unfold tkV
   go_wp2_with fail
   refine bodyPost_ret (v:=tkV t) (by simp[results,Tryz.results170,tkV,go_sem, *]) rfl ⟨by rw[e.out],?_⟩
   (repeat (first|with_reducible refine Below.setCell ?_ (by first|(simp;done)|(simp;omega)) _|with_reducible refine Below.alloc ?_ (by first|omega|(simp;done)|(simp;omega)) _));with_reducible exact HB.out
  |none=>
   have e:Hid (hashP s.data.toList a=truthP s.data.toList a):=by show _=_;rw[e0.out,hl];rfl
   have hl':Hid _:=hl
   clear hl e0
   go_enter Tryz.func170,Tryz.ntmps170
   go_wp2_with fail
   refine(scanLabel_any _ _ _ hs (by omega)).mono ?_
   rw[hl'.out];rintro e w1 ⟨rfl,hb⟩
   have HK2:Hid _:=(hb.block w.heap.size (by simp)).trans (heap_alloc_new w _)
   have HB:Hid (Below w.heap.size w w1):=((Below.refl _ w).alloc (Nat.le_refl _) _).trans (hb.mono (by simp))
   have hs1:w.heap.size<w1.heap.size:=by have:=hb.size;simp at this;omega
   clear hb
   simp only[Option.getD_none,Option.isSome_none]
   unfold tkV lab0
   go_wp2_with fail
   refine(scanTruth_any _ _ _ hs (by omega)).mono ?_
   rintro e w2 ⟨rfl,hb2⟩
   obtain⟨⟨x0,x1,x2,x3,x4,x5,x6⟩,f0,f1,f2,f3,f4,f5,f6⟩:=cells7 (b:=w.heap.size) hb2 ((Lib.alloc_old _ _ _ hs1).trans HK2.out)
   have HB2:Hid (Below w.heap.size w w2):=(HB.out.alloc (by omega) _).trans (hb2.mono (by simp;omega))
   clear hb2
   unfold tkV
   go_wp2_with fail
   exact bodyPost_ret (v:=tkV (truthP s.data.toList a)) (by simp[results,Tryz.results170,tkV,go_sem, *]) rfl ⟨by rw[e.out],below7 HB2.out _ _ _ _ _ _ _⟩
 ·have e0:Hid (hashP s.data.toList a=(labelP s.data.toList a).getD (truthP s.data.toList a)):=hash_label fun c r h=>by
   have:=congrArg List.length h
   rw[List.length_drop,len_data] at this
   simp at this;omega
  cases hl:labelP s.data.toList a with
  |some t=>
   exfalso
   unfold labelP at hl
   simp only[show s.data.toList.drop (a+1)=[] from List.drop_of_length_le (by rw[len_data];omega),runL] at hl
   simp at hl
  |none=>
   have e:Hid (hashP s.data.toList a=truthP s.data.toList a):=by show _=_;rw[e0.out,hl];rfl
   have hl':Hid _:=hl
   clear hl e0
   go_enter Tryz.func170,Tryz.ntmps170
   go_wp2_with fail
   refine(scanLabel_any _ _ _ hs (by omega)).mono ?_
   rw[hl'.out];rintro e w1 ⟨rfl,hb⟩
   have HK2:Hid _:=(hb.block w.heap.size (by simp)).trans (heap_alloc_new w _)
   have HB:Hid (Below w.heap.size w w1):=((Below.refl _ w).alloc (Nat.le_refl _) _).trans (hb.mono (by simp))
   have hs1:w.heap.size<w1.heap.size:=by have:=hb.size;simp at this;omega
   clear hb
   simp only[Option.getD_none,Option.isSome_none]
   unfold tkV lab0
   go_wp2_with fail
   refine(scanTruth_any _ _ _ hs (by omega)).mono ?_
   rintro e w2 ⟨rfl,hb2⟩
   obtain⟨⟨x0,x1,x2,x3,x4,x5,x6⟩,f0,f1,f2,f3,f4,f5,f6⟩:=cells7 (b:=w.heap.size) hb2 ((Lib.alloc_old _ _ _ hs1).trans HK2.out)
   have HB2:Hid (Below w.heap.size w w2):=(HB.out.alloc (by omega) _).trans (hb2.mono (by simp;omega))
   clear hb2
   unfold tkV
   go_wp2_with fail
   exact bodyPost_ret (v:=tkV (truthP s.data.toList a)) (by simp[results,Tryz.results170,tkV,go_sem, *]) rfl ⟨by rw[e.out],below7 HB2.out _ _ _ _ _ _ _⟩
end Go.Proofs.YtlhimdjkkiflhaaGreatDoor
