import Derived.Deep.RegionLaw
import Derived.Test.YtlhimdjkkiflhaaGreatDoorDeep27
namespace Go.Proofs.YtlhimdjkkiflhaaGreatDoor
open Go.RowKit Go.Loop
theorem underLabs:Tryz.prog.underlying 126=some (.slice 212):=by kernel_rfl
theorem row_ptr {w:World}{v:Value}{n:Nat}{xs:List Value}(h:w.ownsRow 0 212 1 v n xs)(b:Nat)(o:Obj)(hb:w.heap[b]? =some o)(ho:∀ cur,o≠ .cells cur 212):some b≠v.ownBlock:=by
 intro e
 rcases h.2 with⟨rfl,_⟩|⟨g,cap,cur,rfl,_,hg,_⟩
 ·cases e
 ·have:b=g:=by cases e;rfl
  rw[this,hg] at hb
  exact ho cur (by cases hb;rfl)
section
variable {R M g cap:Nat} {T:List Tok} {dp:Nat} {E:Env} {s:RSt}
theorem RdAt.tokens {w:World}(h:RdAt w R M g cap T dp E s):∃ cur,w.heap[g]? =some (.cells cur 131):=by
 rcases h.row.2 with⟨e,_⟩|⟨b,cp,cur,h1,_,h3,_⟩
 ·cases e
 ·have:b=g:=by cases h1;rfl
  exact⟨cur,by rw[←this];exact h3⟩
theorem grown_put {w3 w4:World}{v:Value}{n:Nat}{xs:List Value}{A:Obj}(hr:RdAt w3 R M g cap T dp E s)(ho:w3.ownsRow 0 212 1 v n xs)(hg:(w3.alloc A).grownBy w4 v.ownBlock):
 RdAt w4 R M g cap T dp E s∧KpA R M v.ownBlock w3 w4∧(∀ b,b<w3.heap.size→some b≠v.ownBlock→w4.heap[b]? =w3.heap[b]?)∧w3.heap.size+1≤w4.heap.size:=by
 have hs:(w3.alloc A).heap.size=w3.heap.size+1:=by simp
 have hb:∀ b,b<w3.heap.size→some b≠v.ownBlock→w4.heap[b]? =w3.heap[b]?:=fun b h h'=>(hg.block b (by omega) h').trans (Lib.alloc_old _ _ _ h)
 have hz:=hg.size
 refine⟨?_,⟨hg.os,hg.tape,hg.output,by omega,fun b b1 _ _ b4=>hb b b1 b4⟩,hb,by omega⟩
 obtain⟨es,c,hm,-⟩:=hr.lm
 obtain⟨cur,hgg⟩:=hr.tokens
 have q1:=row_ptr ho R _ hr.blk (fun cur e=>by simp at e)
 have q2:=row_ptr ho g _ hgg (fun cur e=>by simp at e)
 have q3:=row_ptr ho M _ hm (fun cur e=>by simp at e)
 exact RdAt.step hr (k:=s.k) ((hb R hr.lt q1).trans hr.blk) (by omega) (fun b b1 b2=>hb b b1 (b2.elim (fun e=>by rw[e];exact q2) fun e=>by rw[e];exact q3)) fun b x hv=>hb b (Array.getElem?_eq_some_iff.1 hv).1 (row_ptr ho b _ hv (fun cur e=>by simp at e))
theorem RdAt.place {w:World}(h:RdAt w R M g cap T dp E s){b:Nat}{cs:Array Value}(hb:w.heap[b]? =some (.cells cs 128))(i:Nat)(v:Value):RdAt (w.setCell ⟨b,i,none⟩ v) R M g cap T dp E s:=by
 have ho:∀ c,c≠b→(w.setCell ⟨b,i,none⟩ v).heap[c]? =w.heap[c]?:=fun c hc=>Below.heap_setCell _ _ _ _ hc
 obtain⟨es,c,hm,-⟩:=h.lm
 obtain⟨cur,hgg⟩:=h.tokens
 have q1:R≠b:=fun e=>by rw[←e,h.blk] at hb;simp at hb
 have q2:g≠b:=fun e=>by rw[←e,hgg] at hb;simp at hb
 have q3:M≠b:=fun e=>by rw[←e,hm] at hb;simp at hb
 exact RdAt.step h (k:=s.k) ((ho R q1).trans h.blk) (by simp) (fun c _ c2=>ho c (c2.elim (fun e=>by rw[e];exact q2) fun e=>by rw[e];exact q3)) fun c x hv=>ho c (fun e=>by rw[e,hb] at hv;simp at hv)
theorem AhAt.more {w:World}{l:List Int}{v':Value}{n:Int}{L0 b:Nat}{cs:Array Value}(h:w.ownsRow 0 212 1 v' (l.length+1) (l.map (fun m=>ptrV ((E.label n L0).lab m))++[ptrV L0]))(hb:w.heap[b]? =some (.cells cs 128))(hl:∀ m∈l,m∈s.labs)(x:Value):
 AhAt (w.setCell ⟨b,2,none⟩ x) (E.label n L0) { s with labs:=n::s.labs } (l++[n]) v':=by
 refine⟨?_,?_,fun m hm=>?_⟩
 ·have e:((l++[n]).map fun m=>ptrV ((E.label n L0).lab m))=l.map (fun m=>ptrV ((E.label n L0).lab m))++[ptrV L0]:=by
   rw[List.map_append]
   congr 1
   simp[Env.label]
  rw[e,List.length_append]
  refine⟨h.1,h.2.imp id ?_⟩
  rintro ⟨c,cp,cur,h1,h2,h3,h4⟩
  exact⟨c,cp,cur,h1,h2,(Below.heap_setCell _ _ _ _ (fun e=>by rw[e,hb] at h3;simp at h3)).trans h3,h4⟩
 ·obtain⟨a,c,e⟩:=ownsRow_slice h
  exact⟨a,_,c,e⟩
 ·rcases List.mem_append.1 hm with h1|h1
  ·exact List.mem_cons_of_mem _ (hl m h1)
  ·simp at h1
   subst h1
   exact List.mem_cons_self
theorem KpA.put {A B:Option Nat}{w w5 w6:World}(h:KpA R M A w w5)(k:KpA R M B w5 w6)(hv:B=A∨∃ k,B=some k∧w.heap.size≤k):KpA R M A w w6:=by
 have h1:=h.size
 have h2:=k.size
 refine⟨k.os.trans h.os,k.tape.trans h.tape,k.output.trans h.output,by omega,fun b b1 b2 b3 b4=>(k.block b (by omega) b2 b3 fun e=>?_).trans (h.block b b1 b2 b3 b4)⟩
 rcases hv with hv|⟨c,hc,hlt⟩
 ·exact b4 (e.trans hv)
 ·rw[hc] at e
  cases e
  omega
theorem KpA.above {A:Option Nat}{w w':World}(h:KpA R M A w w'){b:Nat}(hb:w.heap.size≤b)(i:Nat)(v:Value):KpA R M A w (w'.setCell ⟨b,i,none⟩ v):=
 ⟨h.os,h.tape,h.output,by have:=h.size;simpa using this,fun c c1 c2 c3 c4=>(Below.heap_setCell _ _ _ _ (show c≠b by omega)).trans (h.block c c1 c2 c3 c4)⟩
theorem put_fin {w w5 w6:World}{A:Option Nat}{v' x v:Value}{E2:Env}{s2:RSt}{n:Int}{d:Dt}{L0 m:Nat}{xs:List Value}(hk:KpA R M A w w5)(hL:w.heap.size≤L0)(hb5:w5.heap[L0]? =some (.cells #[x] 215))
 (ho:w5.ownsRow 0 212 1 v' m xs)(hv:v'.ownBlock=A∨∃ k,v'.ownBlock=some k∧w.heap.size≤k)(hr5:RdAt w5 R M g cap T dp (E.label n L0) { s with labs:=n::s.labs })(hn:¬ n∈s.labs)
 (hi:∃ t y,v= .iface t y)(hdat:Dat w5.heap.size s2.fresh s2.labs w6 E2 d v)(hx:Ext w5 w6 (E.label n L0) E2 { s with labs:=n::s.labs } s2)(hr6:RdAt w6 R M g cap T dp E2 s2)(hk6:KpA R M v'.ownBlock w5 w6):
 w6.heap[L0]? =some (.cells #[x] 215)∧OkD R M g cap T dp A w E s (.ok (.put n d) s2) (.returned (.tuple #[v,.pointer none])) (w6.setCell ⟨L0,0,none⟩ v):=by
 have hL5:L0<w5.heap.size:=(Array.getElem?_eq_some_iff.1 hb5).1
 have hs5:=hk.size
 have hs6:=hk6.size
 obtain⟨es,c,hm,-⟩:=hr5.lm
 have q1:L0≠R:=fun e=>by rw[e,hr5.blk] at hb5;simp at hb5
 have q3:L0≠M:=fun e=>by rw[e,hm] at hb5;simp at hb5
 have hb6:w6.heap[L0]? =some (.cells #[x] 215):=(hk6.block L0 hL5 q1 q3 (row_ptr ho L0 _ hb5 (fun cur e=>by simp at e))).trans hb5
 obtain⟨cur,hgg⟩:=hr6.tokens
 have q2:g≠L0:=fun e=>by rw[e,hb6] at hgg;simp at hgg
 have hl0:(w6.setCell ⟨L0,0,none⟩ v).heap[L0]? =some (.cells #[v] 215):=blk_set hb6 0 v
 have ho7:∀ c,c≠L0→(w6.setCell ⟨L0,0,none⟩ v).heap[c]? =w6.heap[c]?:=fun c hc=>Below.heap_setCell _ _ _ _ hc
 have hlab:E2.lab n=L0:=(hx.agree.2 n List.mem_cons_self).trans (if_pos rfl)
 refine⟨hb6,v,E2,rfl,hi,?_,?_,?_,(hk.put hk6 hv).above hL 0 v⟩
 ·unfold Dat
  rw[hlab]
  exact⟨hx.labs n List.mem_cons_self,hL,hl0,Dat.keep hs5 (Nat.le_refl _) (fun _ h=>h) (fun b b1 _=>ho7 b (by omega)) ⟨fun _ _=>rfl,fun _ _=>rfl⟩ d v hdat⟩
 ·have ag:=label_agree E n L0 s.fresh hn
  refine⟨⟨fun i hi=>(hx.agree.1 i hi).trans (ag.1 i hi),fun m hm=>(hx.agree.2 m (List.mem_cons_of_mem _ hm)).trans (ag.2 m hm)⟩,hx.fresh,fun m hm=>hx.labs m (List.mem_cons_of_mem _ hm),fun i i1 i2=>?_,hx.inj⟩
  have:=hx.new i i1 i2
  rw[show(w6.setCell ⟨L0,0,none⟩ v).heap.size=w6.heap.size by simp]
  omega
 ·refine⟨hr6.rm,hr6.gr,hr6.gm,(ho7 R q1.symm).trans hr6.blk,?_,?_,fun m hm=>?_,hr6.inj,hr6.small,hr6.deep⟩
  ·refine⟨hr6.row.1,hr6.row.2.imp id ?_⟩
   rintro ⟨b,cp,cur,h1,h2,h3,h4⟩
   have:b=g:=by cases h1;rfl
   exact⟨b,cp,cur,h1,h2,(ho7 b (by rw[this];exact q2)).trans h3,h4⟩
  ·obtain⟨es,c,h1,h2⟩:=hr6.lm
   exact⟨es,c,(ho7 M q3.symm).trans h1,h2⟩
  ·obtain⟨y,hy⟩:=hr6.low m hm
   by_cases e:E2.lab m=L0
   ·rw[e];exact⟨v,hl0⟩
   ·exact⟨y,(ho7 _ e).trans hy⟩
end
section
variable {P:Program}
theorem run_append_rowS (w:World)(base:Nat)(t ty e:TypeId)(i:TypeInfo)(z:Value)(sz y:Nat)(ht:P.underlying t=some (.slice e))(hi:P.info? e=some i)(hz:i.zero=some z)
 (hsize:i.size=sz)(hby:i.bytes=y)(hsz:0<sz)(hy:y≤100)(hzs:z.cells.size=sz)
 (v:Value)(n:Nat)(xs:List Value)(hown:w.ownsRow base e sz v n xs)
 (a:Addr)(m c:Nat)(news:List Value)(hm:m≠0)(hl:news.length=m*sz)(hnews:∀ j u,news[j]? =some u→w.cell? (a.add j)=some u)(h1:∀ u∈news,u.oneCell'=true)
 (hlen:n+m≤1000000)(hbase:base≤w.heap.size):
 ∃ v' w',(Builtin.append_ #[t,t] ty #[v,.slice (some a) m c]).run P w= .ok v' w'∧w'.ownsRow base e sz v' (n+m) (xs++news)∧w.grownBy w' v.ownBlock∧
   (v'.ownBlock=v.ownBlock∨∃ k,v'.ownBlock=some k∧w.heap.size≤k):=by
 have h63:n+m≤maxLen:=by unfold maxLen;omega
 have hbytes:(n+m)*y≤140737488355328:=Nat.le_trans (Nat.mul_le_mul hlen hy) (by decide)
 obtain⟨v',w',hr,h2,h3,h4⟩:=run_append_own (P:=P) w base t ty e i z sz y ht hi hz hsize hby hzs hsz v n xs hown a m c news hl hnews h1 h63 hbytes hbase
 refine⟨v',w',hr,h2,h3,?_⟩
 have hsmall:n+m≤9223372036854775807:=by omega
 rcases hown.2 with⟨rfl,rfl⟩|⟨g,cap,cur,rfl,hbg,hg,hnc,hcm,hcs,htake⟩
 ·have hr':=run_append_nil (P:=P) w t ty e i z ht hi hz a m c news (by rw[hsize];exact hl) hnews (by omega) (by omega) (by rw[hby];first|exact growslice_fits (by omega) (by simpa using hbytes)|exact Nat.le_trans (Nat.mul_le_mul (show m≤1000000 by omega) hy) (by decide))
  rw[hr'] at hr
  injection hr with a b
  rw[←a]
  exact Or.inr ⟨_,rfl,Nat.le_refl _⟩
 ·by_cases hroom:n+m≤cap
  ·have hr':=run_append_room (P:=P) w t ty e i ht hi g n cap cur hg a m c news (by rw[hsize];exact hl) hnews h1 hroom (by rw[hsize,hcs,hl,←Nat.add_mul];exact Nat.mul_le_mul hroom (Nat.le_refl _))
   rw[hr'] at hr
   injection hr with a b
   rw[←a]
   exact Or.inl rfl
  ·have holds:∀ j u,xs[j]? =some u→w.cell? ((⟨g,0,none⟩:Addr).add j)=some u:=hown.cells (g:=g) rfl
   have hr':=run_append_grow (P:=P) w t ty e i z ht hi hz ⟨g,0,none⟩ n cap xs (by rw[hsize];exact hown.1) holds a m c news (by rw[hsize];exact hl) hnews (by omega) (by omega) (by rw[hby];exact growslice_fits (by omega) hbytes)
   rw[hr'] at hr
   injection hr with a b
   rw[←a]
   exact Or.inr ⟨_,rfl,Nat.le_refl _⟩
theorem step_append_rowS {ops:Array Oper}{o:Oper}{a:Act}{w:World}{K:Act→World→Prop}{Q:Exit→Act→World→Prop}{X:Prop}
 (hg:o.guard=none)(s x:Operand)(t:TypeId)(hop:o.op=Op.call { callee:=Callee.builtin Builtin.append,args:=#[s,x],argTypes:=#[t,t] })
 (base:Nat)(e:TypeId)(i:TypeInfo)(z:Value)(sz y:Nat)(ht:P.underlying t=some (.slice e))(hi:P.info? e=some i)(hz:i.zero=some z)
 (hsize:i.size=sz)(hby:i.bytes=y)(hsz:0<sz)(hy:y≤100)(hzs:z.cells.size=sz)
 (v:Value)(n:Nat)(xs:List Value)(hs:a.eval s=v)(hown:w.ownsRow base e sz v n xs)
 (ad:Addr)(m c:Nat)(news:List Value)(hx:a.eval x= .slice (some ad) m c)(hm:m≠0)(hl:news.length=m*sz)(hnews:∀ j u,news[j]? =some u→w.cell? (ad.add j)=some u)(h1:∀ u∈news,u.oneCell'=true)
 (hlen:n+m≤1000000)(hbase:base≤w.heap.size)
 (hK:∀ v' w',w'.ownsRow base e sz v' (n+m) (xs++news)→w.grownBy w' v.ownBlock→(v'.ownBlock=v.ownBlock∨∃ k,v'.ownBlock=some k∧w.heap.size≤k)→K (a.put o.dst v') w'):
 if Region.wanted o (yielded ops a.tmps)=true then Oper.wp P o a w K Q else X:=by
 have hw:Region.wanted o (yielded ops a.tmps)=true:=by simp[Region.wanted,hg]
 rw[if_pos hw]
 obtain⟨v',w',hr,h2,h3,h4⟩:=run_append_rowS (P:=P) w base t o.type e i z sz y ht hi hz hsize hby hsz hy hzs v n xs hown ad m c news hm hl hnews h1 hlen hbase
 unfold Oper.wp
 simp only[execOp,hop,resolve,invoke,builtin,Sem.run_bind,Sem.run_pure,Result.andThen_ok,List.map_toArray,List.map_cons,List.map_nil,hs,hx,hr]
 exact hK v' w' h2 h3 h4
end
theorem infoNodeR:(Tryz.prog.info? 45).map (fun i=>(i.zero,i.size,i.bytes))=some (some (.agg #[.int .i64 0,.string ⟨#[]⟩,.int .i64 0,.int .i64 0,.slice none 0 0]),5,64):=by kernel_rfl
theorem underNodes:Tryz.prog.underlying 28=some (.slice 45):=by kernel_rfl
def nd5 (x:Nd0)(sv:Value):List Value:=[.int .i64 x.kind,.string ⟨⟨x.text⟩⟩,.int .i64 x.n,.int .i64 x.d,sv]
def nds:List Nd0→List Value→List Value
 |x::l,sv::svs=>nd5 x sv++nds l svs
 |_,_=>[]
def SubAt (w:World)(base:Nat)(sv:Value)(l:List Nat):Prop:=
 (sv= .slice none 0 0∧l=[])∨∃ b,sv= .slice (some ⟨b,0,none⟩) l.length l.length∧base≤b∧w.heap[b]? =some (.cells (l.map fun k:Nat=>Value.int .i64 (k:Int)).toArray 3)
structure GrAt (w0 w:World) (G M:Nat) (κ:Nat→HK) (E:Env) (g:GSt) (svs:List Value) (nv:Value):Prop where
 gm:G≠M
 glo:w0.heap.size≤G
 mlo:w0.heap.size≤M
 low:Below w0.heap.size w0 w
 blk:w.heap[G]? =some (.cells #[nv,.map (some M)] 100)
 row:w.ownsRow w0.heap.size 45 5 nv g.nodes.length (nds g.nodes svs)
 map:MapAt w M (metL κ E g.met)
 len:svs.length=g.nodes.length
 subs:∀ (j:Nat) x sv,g.nodes[j]? =some x→svs[j]? =some sv→SubAt w w0.heap.size sv x.subs
theorem nds_snoc:∀ (l:List Nd0) (svs:List Value) (x:Nd0) (sv:Value),svs.length=l.length→nds (l++[x]) (svs++[sv])=nds l svs++nd5 x sv
 |[],[],x,sv,_=>by simp[nds]
 |[],_::_,_,_,h=>by simp at h
 |_::_,[],_,_,h=>by simp at h
 |y::l,s::svs,x,sv,h=>by
  have:=nds_snoc l svs x sv (by simpa using h)
  simp only[List.cons_append,nds,this,List.append_assoc]
section
variable {w0 w:World} {G M:Nat} {κ:Nat→HK} {E:Env} {g:GSt} {svs:List Value} {nv:Value}
def NewS (w:World)(svs svs':List Value):Prop:=∀ sv∈svs',∀ b,sv.ownBlock=some b→(∃ sv0∈svs,sv0.ownBlock=some b)∨w.heap.size≤b
def Grown (w0 w w':World)(G M:Nat)(κ:Nat→HK)(E:Env)(svs:List Value)(nv:Value)(g':GSt):Prop:=
 ∃ svs' nv',GrAt w0 w' G M κ E g' svs' nv'∧KpA G M nv.ownBlock w w'∧(nv'.ownBlock=nv.ownBlock∨∃ b,nv'.ownBlock=some b∧w.heap.size≤b)∧NewS w svs svs'
def nodeAgg (x:Nd0):Value:= .agg #[.int .i64 x.kind,.string ⟨⟨x.text⟩⟩,.int .i64 x.n,.int .i64 x.d,.slice none 0 0]
theorem GrAt.row_ne (h:GrAt w0 w G M κ E g svs nv)(b:Nat)(o:Obj)(hb:w.heap[b]? =some o)(ho:∀ cur,o≠ .cells cur 45):some b≠nv.ownBlock:=by
 intro e
 rcases h.row.2 with⟨rfl,_⟩|⟨c,cap,cur,rfl,_,hg,_⟩
 ·cases e
 ·have:b=c:=by cases e;rfl
  rw[this,hg] at hb
  exact ho cur (by cases hb;rfl)
theorem grown_add (h:GrAt w0 w G M κ E g svs nv)(x:Nd0)(hx:x.subs=[]){w1 w4:World}{v':Value}(hb1:Below w.heap.size w w1)(hrow:w4.ownsRow w0.heap.size 45 5 v' (g.nodes.length+1) (nds g.nodes svs++nd5 x (.slice none 0 0)))(hg:w1.grownBy w4 nv.ownBlock)
 (hbuf:v'.ownBlock=nv.ownBlock∨∃ k,v'.ownBlock=some k∧w1.heap.size≤k):
 w4.heap[G]? =some (.cells #[nv,.map (some M)] 100)∧Grown w0 w (w4.setCell ⟨G,0,none⟩ v') G M κ E svs nv (g.add x):=by
 have hs1:=hb1.size
 have hs4:=hg.size
 have hb:∀ b,b<w.heap.size→some b≠nv.ownBlock→w4.heap[b]? =w.heap[b]?:=fun b h1 h2=>(hg.block b (by omega) h2).trans (hb1.block b h1)
 have hG:G<w.heap.size:=(Array.getElem?_eq_some_iff.1 h.blk).1
 obtain⟨es,c,hm,hme⟩:=h.map
 have hM:M<w.heap.size:=(Array.getElem?_eq_some_iff.1 hm).1
 have qG:=h.row_ne G _ h.blk (fun cur e=>by simp at e)
 have qM:=h.row_ne M _ hm (fun cur e=>by simp at e)
 have h4:w4.heap[G]? =some (.cells #[nv,.map (some M)] 100):=(hb G hG qG).trans h.blk
 have ho:∀ b,b≠G→(w4.setCell ⟨G,0,none⟩ v').heap[b]? =w4.heap[b]?:=fun b hb=>Below.heap_setCell _ _ _ _ hb
 have hlowA:∀ b,nv.ownBlock=some b→w0.heap.size≤b:=fun b hb=>(h.row.lt b hb).1
 refine⟨h4,svs++[.slice none 0 0],v',⟨h.gm,h.glo,h.mlo,⟨hg.os.trans (hb1.os.trans h.low.os),hg.tape.trans (hb1.tape.trans h.low.tape),hg.output.trans (hb1.output.trans h.low.output),?_,fun b b1=>?_⟩,blk_set h4 0 v',?_,?_,?_,fun j y sv hy hsv=>?_⟩,⟨hg.os.trans hb1.os,hg.tape.trans hb1.tape,hg.output.trans hb1.output,?_,fun b b1 b2 _ b4=>(ho b b2).trans (hb b b1 b4)⟩,hbuf.imp id (fun⟨k,k1,k2⟩=>⟨k,k1,by omega⟩),fun sv hsv b hb=>?_⟩
 ·have:=h.low.size;simp;omega
 ·have:=h.glo
  have hl:=h.low.size
  rw[ho b (by omega),hb b (by omega) (fun e=>by have:=hlowA b e.symm;omega)]
  exact h.low.block b b1
 ·have e:nds (g.add x).nodes (svs++[.slice none 0 0])=nds g.nodes svs++nd5 x (.slice none 0 0):=nds_snoc _ _ _ _ h.len
  have e2:(g.add x).nodes.length=g.nodes.length+1:=by simp[GSt.add]
  rw[e,e2]
  refine⟨hrow.1,hrow.2.imp id ?_⟩
  rintro ⟨b,cp,cur,q1,q2,q3,q4⟩
  exact⟨b,cp,cur,q1,q2,(ho b (fun e=>by rw[e,h4] at q3;simp at q3)).trans q3,q4⟩
 ·exact⟨es,c,(ho M (fun e=>h.gm e.symm)).trans ((hb M hM qM).trans hm),hme⟩
 ·simp[GSt.add,h.len]
 ·simp only[GSt.add] at hy
  rcases Nat.lt_or_ge j g.nodes.length with hj|hj
  ·rw[List.getElem?_append_left hj] at hy
   rw[List.getElem?_append_left (by rw[h.len];exact hj)] at hsv
   rcases h.subs j y sv hy hsv with q|⟨b,q1,q2,q3⟩
   ·exact .inl q
   ·refine .inr ⟨b,q1,q2,?_⟩
    rw[ho b (fun e=>by rw[e,h.blk] at q3;simp at q3),hb b (Array.getElem?_eq_some_iff.1 q3).1 (h.row_ne b _ q3 (fun cur e=>by simp at e))]
    exact q3
  ·have ej:j=g.nodes.length:=by
    have:=(List.getElem?_eq_some_iff.1 hy).1
    simp at this;omega
   subst ej
   rw[List.getElem?_append_right (Nat.le_refl _)] at hy
   rw[List.getElem?_append_right (by rw[h.len];exact Nat.le_refl _),h.len] at hsv
   simp at hy hsv
   subst hy hsv
   exact .inl ⟨rfl,hx⟩
 ·simp;omega
 ·rcases List.mem_append.1 hsv with h1|h1
  ·exact .inl ⟨sv,h1,hb⟩
  ·simp at h1
   subst h1
   cases hb
theorem add_fin (h:GrAt w0 w G M κ E g svs nv)(x:Nd0)(hx:x.subs=[]){w1 w4:World}{v':Value}(hb1:Below w.heap.size w w1)(hrow:w4.ownsRow w0.heap.size 45 5 v' (g.nodes.length+1) (nds g.nodes svs++nd5 x (.slice none 0 0)))(hg:w1.grownBy w4 nv.ownBlock)
 (hbuf:v'.ownBlock=nv.ownBlock∨∃ k,v'.ownBlock=some k∧w1.heap.size≤k):
 ∃ a1 c1,v'= .slice a1 (g.nodes.length+1) c1∧w4.cell? ⟨G,0,none⟩=some nv∧w4.frozen? ⟨G,0,none⟩=false∧Hid (Grown w0 w (w4.setCell ⟨G,0,none⟩ v') G M κ E svs nv (g.add x)):=by
 obtain⟨h4,hgr⟩:=grown_add h x hx hb1 hrow hg hbuf
 obtain⟨a1,c1,e⟩:=ownsRow_slice hrow
 exact⟨a1,c1,e,by simp[World.cell?,h4],by simp[World.frozen?,h4],hgr⟩
theorem new_cells {W:World}{b:Nat}{x:Nd0}{t:TypeId}(h:W.heap[b]? =some (.cells #[.int .i64 x.kind,.string ⟨⟨x.text⟩⟩,.int .i64 x.n,.int .i64 x.d,.slice none 0 0] t))(j:Nat)(u:Value)(hu:(nd5 x (.slice none 0 0))[j]? =some u):W.cell? ((⟨b,0,none⟩:Addr).add j)=some u:=by
 match j,hu with
 |0,hu=>simpa[World.cell?,Addr.add,h,nd5] using hu
 |1,hu=>simpa[World.cell?,Addr.add,h,nd5] using hu
 |2,hu=>simpa[World.cell?,Addr.add,h,nd5] using hu
 |3,hu=>simpa[World.cell?,Addr.add,h,nd5] using hu
 |4,hu=>simpa[World.cell?,Addr.add,h,nd5] using hu
 |j+5,hu=>simp[nd5] at hu
set_option maxHeartbeats 8000000 in
set_option maxRecDepth 100000 in
theorem gadd_any (h:GrAt w0 w G M κ E g svs nv)(x:Nd0)(hx:x.subs=[])(hlen:g.nodes.length+1≤1000000):
 Calls Tryz.prog 82 #[ptrV G,nodeAgg x] w fun e w'=>e= .returned (.int .i64 g.nodes.length)∧Grown w0 w w' G M κ E svs nv (g.add x):=by
 have mixed:Tryz.prog.follows Departure.mixedOrders=true:=by kernel_rfl
 have hG:G<w.heap.size:=(Array.getElem?_eq_some_iff.1 h.blk).1
 obtain⟨a0,c0,rfl⟩:=ownsRow_slice h.row
 obtain⟨g0,g1⟩:w.cell? ⟨G,0,none⟩=some (.slice a0 g.nodes.length c0)∧w.cell? ⟨G,1,none⟩=some (.map (some M)):=by
  constructor<;>simp[World.cell?,h.blk]
 obtain⟨i0,hi,hz0,hz1,hz2⟩:=info_parts infoNodeR
 have HG:Hid _:=h
 have e1:¬ G=w.heap.size:=by omega
 have e2:¬ G=w.heap.size+1:=by omega
 have e3:G<w.heap.size+1:=by omega
 have hb1:Below w.heap.size w (((w.alloc (.cells #[.int .i64 x.kind,.string ⟨⟨x.text⟩⟩,.int .i64 x.n,.int .i64 x.d,.slice none 0 0] 45)).alloc (.cells #[.int .i64 x.kind,.string ⟨⟨x.text⟩⟩,.int .i64 x.n,.int .i64 x.d,.slice none 0 0] 45)).drew):=(((Below.refl _ _).alloc (Nat.le_refl _) _).alloc (by simp) _).drew
 have HB1:Hid _:=hb1
 have HROW:Hid ((((w.alloc (.cells #[.int .i64 x.kind,.string ⟨⟨x.text⟩⟩,.int .i64 x.n,.int .i64 x.d,.slice none 0 0] 45)).alloc (.cells #[.int .i64 x.kind,.string ⟨⟨x.text⟩⟩,.int .i64 x.n,.int .i64 x.d,.slice none 0 0] 45)).drew).ownsRow w0.heap.size 45 5 (.slice a0 g.nodes.length c0) g.nodes.length (nds g.nodes svs)):=ownsRow_from h.row (Nat.le_refl _) fun b _ hb=>hb1.block b hb
 have HNEW:Hid (∀ (j:Nat) u,(nd5 x (.slice none 0 0))[j]? =some u→(((w.alloc (.cells #[.int .i64 x.kind,.string ⟨⟨x.text⟩⟩,.int .i64 x.n,.int .i64 x.d,.slice none 0 0] 45)).alloc (.cells #[.int .i64 x.kind,.string ⟨⟨x.text⟩⟩,.int .i64 x.n,.int .i64 x.d,.slice none 0 0] 45)).drew).cell? ((⟨w.heap.size+1,0,none⟩:Addr).add j)=some u):=new_cells (alloc2_at w _ _)
 have HONE:Hid (∀ u∈nd5 x (.slice none 0 0),u.oneCell'=true):=fun u hu=>by
  simp[nd5] at hu
  rcases hu with rfl|rfl|rfl|rfl|rfl<;>rfl
 have HBASE:Hid (w0.heap.size≤(((w.alloc (.cells #[.int .i64 x.kind,.string ⟨⟨x.text⟩⟩,.int .i64 x.n,.int .i64 x.d,.slice none 0 0] 45)).alloc (.cells #[.int .i64 x.kind,.string ⟨⟨x.text⟩⟩,.int .i64 x.n,.int .i64 x.d,.slice none 0 0] 45)).drew).heap.size):=Nat.le_trans h.low.size hb1.size
 clear h hb1
 unfold ptrV nodeAgg
 go_enter Tryz.func82,Tryz.ntmps82
 go_wp2_with fail
 go_region_law (refine step_append_rowS rfl (.tmp 9) (.tmp 11) 28 rfl w0.heap.size 45 i0 _ 5 64 underNodes hi hz0 hz1 hz2 (by decide) (by decide) rfl (.slice a0 g.nodes.length c0) g.nodes.length (nds g.nodes svs) rfl HROW.out ⟨w.heap.size+1,0,none⟩ 1 1 (nd5 x (.slice none 0 0)) rfl (by decide) rfl HNEW.out HONE.out hlen HBASE.out ?_;intro v' w4 hown' hgrow hbuf;obtain⟨a1,c1,rfl,c4,f4,HGR⟩:=add_fin HG.out x hx HB1.out hown' hgrow hbuf;clear hown' hgrow hbuf)
 all_goals
  go_wp2_with fail
  go_ret
  exact⟨rfl,HGR.out⟩
end
end Go.Proofs.YtlhimdjkkiflhaaGreatDoor
namespace Go.Loop
def askB (root:Dt):Dt→Bool
 | .ask m=>(labD m root).isSome
 | .put _ d=>askB root d
 | .pair _ a b=>askB root a&&askB root b
 | .vec _ l=>askB root l
 | .vcons a l=>askB root a&&askB root l
 |_=>true
theorem askB_lab {root:Dt}{m:Int}:∀ {r d:Dt},askB root r=true→labD m r=some d→askB root d=true
 | .put n x,d,h,hl=>by
   unfold labD at hl
   split at hl
   ·cases hl;exact h
   ·exact askB_lab (r:=x) h hl
 | .pair _ a b,d,h,hl=>by
   simp only[askB,Bool.and_eq_true] at h
   unfold labD at hl
   cases hq:labD m a with
   |some x=>rw[hq] at hl;cases hl;exact askB_lab h.1 hq
   |none=>rw[hq] at hl;exact askB_lab h.2 hl
 | .vec _ l,d,h,hl=>by
   unfold labD at hl
   exact askB_lab (r:=l) h hl
 | .vcons a l,d,h,hl=>by
   simp only[askB,Bool.and_eq_true] at h
   unfold labD at hl
   cases hq:labD m a with
   |some x=>rw[hq] at hl;cases hl;exact askB_lab h.1 hq
   |none=>rw[hq] at hl;exact askB_lab h.2 hl
 | .nil,d,h,hl=>by simp[labD] at hl
 | .sym _,d,h,hl=>by simp[labD] at hl
 | .num _ _,d,h,hl=>by simp[labD] at hl
 | .truth _,d,h,hl=>by simp[labD] at hl
 | .chr _,d,h,hl=>by simp[labD] at hl
 | .txt _ _,d,h,hl=>by simp[labD] at hl
 | .vnil,d,h,hl=>by simp[labD] at hl
 | .ask _,d,h,hl=>by simp[labD] at hl
theorem meantD_hd {root:Dt}{d:Dt}(h:d.hd=true)(f:Nat):meantD root f d=d:=by
 cases f with
 |zero=>rfl
 |succ f=>cases d<;>first|rfl|(simp[Dt.hd] at h)
theorem exists_min {Q:Nat→Prop}(h:∃ n,Q n):∃ n,Q n∧∀ m,Q m→n≤m:=by
 obtain⟨n,hn⟩:=h
 induction n using Nat.strongRecOn with
 |_ n ih=>
  by_cases e:∃ m,m<n∧Q m
  ·obtain⟨m,h1,h2⟩:=e
   exact ih m h1 h2
  ·exact⟨n,hn,fun m hm=>Nat.le_of_not_lt fun hlt=>e ⟨m,hlt,hm⟩⟩
end Go.Loop
namespace Go.Proofs.YtlhimdjkkiflhaaGreatDoor
open Go.RowKit Go.Loop
section
variable {lo K:Nat} {L:List Int} {w:World} {E:Env}
mutual
theorem Dat.lab {m:Int}:∀ {r d:Dt} {v:Value},Dat lo K L w E r v→labD m r=some d→∃ v',w.heap[E.lab m]? =some (.cells #[v'] 215)∧Dat lo K L w E d v'
 | .put n x,d,v,h,hl=>by
   unfold Dat at h
   unfold labD at hl
   split at hl
   ·rename_i e
    subst e
    cases hl
    exact⟨v,h.2.2.1,h.2.2.2⟩
   ·exact Dat.lab h.2.2.2 hl
 | .pair _ a b,d,v,h,hl=>by
   unfold Dat at h
   obtain⟨_,_,_,va,vb,_,h1,h2⟩:=h
   unfold labD at hl
   cases hq:labD m a with
   |some x=>rw[hq] at hl;cases hl;exact Dat.lab h1 hq
   |none=>rw[hq] at hl;exact Dat.lab h2 hl
 | .vec _ l,d,v,h,hl=>by
   unfold Dat at h
   obtain⟨_,_,_,sl,vs,_,_,h1⟩:=h
   unfold labD at hl
   exact DatL.lab h1 hl
 | .vcons a l,d,v,h,hl=>by unfold Dat at h;exact h.elim
 | .nil,d,v,h,hl=>by simp[labD] at hl
 | .sym _,d,v,h,hl=>by simp[labD] at hl
 | .num _ _,d,v,h,hl=>by simp[labD] at hl
 | .truth _,d,v,h,hl=>by simp[labD] at hl
 | .chr _,d,v,h,hl=>by simp[labD] at hl
 | .txt _ _,d,v,h,hl=>by simp[labD] at hl
 | .vnil,d,v,h,hl=>by simp[labD] at hl
 | .ask _,d,v,h,hl=>by simp[labD] at hl
theorem DatL.lab {m:Int}:∀ {r d:Dt} {vs:List Value},DatL lo K L w E r vs→labD m r=some d→∃ v',w.heap[E.lab m]? =some (.cells #[v'] 215)∧Dat lo K L w E d v'
 | .vcons a l,d,vs,h,hl=>by
   unfold DatL at h
   obtain⟨v,r,_,h1,h2⟩:=h
   unfold labD at hl
   cases hq:labD m a with
   |some x=>rw[hq] at hl;cases hl;exact Dat.lab h1 hq
   |none=>rw[hq] at hl;exact DatL.lab h2 hl
 | .vnil,d,v,h,hl=>by simp[labD] at hl
 | .put _ _,d,v,h,hl=>by unfold DatL at h;exact h.elim
 | .pair _ _ _,d,v,h,hl=>by unfold DatL at h;exact h.elim
 | .vec _ _,d,v,h,hl=>by unfold DatL at h;exact h.elim
 | .nil,d,v,h,hl=>by simp[labD] at hl
 | .sym _,d,v,h,hl=>by simp[labD] at hl
 | .num _ _,d,v,h,hl=>by simp[labD] at hl
 | .truth _,d,v,h,hl=>by simp[labD] at hl
 | .chr _,d,v,h,hl=>by simp[labD] at hl
 | .txt _ _,d,v,h,hl=>by simp[labD] at hl
 | .ask _,d,v,h,hl=>by simp[labD] at hl
end
section
variable {P:Program}
def plainT (P:Program)(A:TypeId):Bool:=(P.underlying A).any fun d=>match d with| .interface _=>false|_=>true
theorem run_assert_hit {A x:TypeId}{v:Value}(w:World)(hu:plainT P A=true):(Instr.typeAssert (.iface A v) x A true).run P w= .ok (.tuple #[v,.bool true]) w:=by
 unfold plainT at hu
 cases hq:P.underlying A with
 |none=>rw[hq] at hu;cases hu
 |some d=>
  rw[hq] at hu
  cases d<;>first|(simp at hu;done)|simp[Instr.typeAssert,run_underlying hq]
theorem run_assert_miss {t A x:TypeId}{v z:Value}(w:World)(hu:plainT P A=true)(hz:(P.info? A).bind (·.zero)=some z)(h:t≠A):(Instr.typeAssert (.iface t v) x A true).run P w= .ok (.tuple #[z,.bool false]) w:=by
 unfold plainT at hu
 cases hi:P.info? A with
 |none=>rw[hi] at hz;cases hz
 |some i=>
  rw[hi] at hz
  have hz':i.zero=some z:=hz
  cases hq:P.underlying A with
  |none=>rw[hq] at hu;cases hu
  |some d=>
   rw[hq] at hu
   cases d<;>first|(simp at hu;done)|simp[Instr.typeAssert,run_underlying hq,h,zeroValue,typeInfo,hi,hz']
end
theorem plainLab:plainT Tryz.prog 212=true:=by kernel_rfl
theorem zeroLab:(Tryz.prog.info? 212).bind (·.zero)=some (.pointer none):=by kernel_rfl
def OnWay (lo K:Nat)(L:List Int)(w:World)(E:Env)(root t:Dt)(f:Nat)(v:Value):Prop:=∃ d,Dat lo K L w E d v∧meantD root f d=t∧askB root d=true
set_option maxHeartbeats 4000000 in
set_option maxRecDepth 100000 in
theorem meant_any {w0:World}(hlow:Below w0.heap.size w0 w){root:Dt}{rv:Value}(hroot:Dat lo K L w0 E root rv)(hask:askB root root=true)(f:Nat)(d:Dt)(v:Value)(hd:Dat lo K L w0 E d v)(ha:askB root d=true)(hh:(meantD root f d).hd=true):
 Calls Tryz.prog 78 #[v] w fun e w'=>∃ v',e= .returned v'∧w'=w∧Dat lo K L w0 E (meantD root f d) v':=by
 generalize ht:meantD root f d=t at *
 obtain⟨μ,hμ⟩:∃ μ:Value→Nat,∀ x,(∃ n,OnWay lo K L w0 E root t n x)→OnWay lo K L w0 E root t (μ x) x∧∀ m,OnWay lo K L w0 E root t m x→μ x≤m:=by
  have hex:∀ x,∃ k,(∃ n,OnWay lo K L w0 E root t n x)→OnWay lo K L w0 E root t k x∧∀ m,OnWay lo K L w0 E root t m x→k≤m:=fun x=>by
   by_cases e:∃ n,OnWay lo K L w0 E root t n x
   ·obtain⟨n,h1⟩:=exists_min e
    exact⟨n,fun _=>h1⟩
   ·exact⟨0,fun h=>absurd h e⟩
  exact⟨fun x=>Classical.choose (hex x),fun x=>Classical.choose_spec (hex x)⟩
 have H0:Hid (∃ n,OnWay lo K L w0 E root t n v):=⟨f,d,hd,ht,ha⟩
 have HM:Hid _:=hμ
 have HRT:Hid _:=hroot
 have HAS:Hid _:=hask
 have HLO:Hid _:=hlow
 clear hlow hμ hroot hask hd ht ha d f
 go_enter Tryz.func78,Tryz.ntmps78
 go_wp2_with fail
 go_loopw [0] (fun sv wr=>wr=w∧Hid (∃ n,OnWay lo K L w0 E root t n sv)) (fun sv _=>μ sv)
 case atStart=>exact⟨rfl,H0.out⟩
 case round=>
  obtain⟨rfl,HX⟩:=hrel
  obtain⟨⟨d,hd,hm,ha⟩,hmin⟩:=HM.out _ HX.out
  cases d with
  |vnil=>unfold Dat at hd;exact hd.elim
  |vcons a l=>unfold Dat at hd;exact hd.elim
  |put n x=>
   exfalso
   cases hf:μ u0 with
   |zero=>rw[hf] at hm;have:(Dt.put n x).hd=true:=by rw[←hh,←hm];rfl
          simp[Dt.hd] at this
   |succ k=>
    rw[hf] at hm
    unfold Dat at hd
    have:=hmin k ⟨x,hd.2.2.2,hm,ha⟩
    omega
  |ask m=>
   cases hf:μ u0 with
   |zero=>rw[hf] at hm;have:(Dt.ask m).hd=true:=by rw[←hh,←hm];rfl
          simp[Dt.hd] at this
   |succ k=>
    rw[hf] at hm
    have ha':(labD m root).isSome=true:=ha
    obtain⟨d1,hd1⟩:=Option.isSome_iff_exists.1 ha'
    obtain⟨v1,hv1,hdat1⟩:=Dat.lab HRT.out hd1
    have hm1:meantD root k d1=t:=by have e:meantD root (k+1) (.ask m)=meantD root k ((labD m root).getD .nil):=rfl
                                    rw[e,hd1] at hm;exact hm
    have HON:Hid (OnWay lo K L w0 E root t k v1):=⟨d1,hdat1,hm1,askB_lab HAS.out hd1⟩
    have hlt:=(HM.out v1 ⟨k,HON.out⟩).2 k HON.out
    unfold Dat at hd
    obtain⟨-,rfl⟩:=hd
    have hv2:=(HLO.out.block _ (Array.getElem?_eq_some_iff.1 hv1).1).trans hv1
    have c0:wr.cell? ⟨E.lab m,0,none⟩=some v1:=by simp[World.cell?,hv2]
    have hta:(Instr.typeAssert (.iface 212 (.pointer (some ⟨E.lab m,0,none⟩))) 58 212 true).run Tryz.prog wr=_:=run_assert_hit wr plainLab
    clear hm hmin ha hdat1 hm1 hv1 hv2 ha' hd1
    unfold ptrV at *
    go_wp2_with fail
    exact⟨⟨trivial,⟨k,HON.out⟩⟩,by rw[hf];omega⟩
  |nil=>
   have HD:Hid (t= .nil):=by show _=_;rw[←hm];exact meantD_hd rfl _
   unfold Dat at hd
   subst hd
   have hta:(Instr.typeAssert (.iface 272 (.agg #[])) 58 212 true).run Tryz.prog wr=_:=run_assert_miss wr plainLab zeroLab (by decide)
   clear hm hmin ha
   go_wp2_with fail
   go_ret
   exact⟨_,rfl,rfl,by rw[HD.out];unfold Dat;rfl⟩
  |sym s=>
   have HD:Hid (t= .sym s):=by show _=_;rw[←hm];exact meantD_hd rfl _
   unfold Dat at hd
   subst hd
   have hta:(Instr.typeAssert (.iface 168 (.agg #[.string ⟨⟨s⟩⟩])) 58 212 true).run Tryz.prog wr=_:=run_assert_miss wr plainLab zeroLab (by decide)
   clear hm hmin ha
   go_wp2_with fail
   go_ret
   exact⟨_,rfl,rfl,by rw[HD.out];unfold Dat;rfl⟩
  |num a b=>
   have HD:Hid (t= .num a b):=by show _=_;rw[←hm];exact meantD_hd rfl _
   unfold Dat at hd
   subst hd
   have hta:(Instr.typeAssert (.iface 153 (.agg #[.int .i64 a,.int .i64 b])) 58 212 true).run Tryz.prog wr=_:=run_assert_miss wr plainLab zeroLab (by decide)
   clear hm hmin ha
   go_wp2_with fail
   go_ret
   exact⟨_,rfl,rfl,by rw[HD.out];unfold Dat;rfl⟩
  |truth a=>
   have HD:Hid (t= .truth a):=by show _=_;rw[←hm];exact meantD_hd rfl _
   unfold Dat at hd
   subst hd
   have hta:(Instr.typeAssert (.iface 155 (.agg #[.int .i64 a])) 58 212 true).run Tryz.prog wr=_:=run_assert_miss wr plainLab zeroLab (by decide)
   clear hm hmin ha
   go_wp2_with fail
   go_ret
   exact⟨_,rfl,rfl,by rw[HD.out];unfold Dat;rfl⟩
  |chr a=>
   have HD:Hid (t= .chr a):=by show _=_;rw[←hm];exact meantD_hd rfl _
   unfold Dat at hd
   subst hd
   have hta:(Instr.typeAssert (.iface 157 (.agg #[.int .i64 a])) 58 212 true).run Tryz.prog wr=_:=run_assert_miss wr plainLab zeroLab (by decide)
   clear hm hmin ha
   go_wp2_with fail
   go_ret
   exact⟨_,rfl,rfl,by rw[HD.out];unfold Dat;rfl⟩
  |txt i s=>
   have HD:Hid (t= .txt i s):=by show _=_;rw[←hm];exact meantD_hd rfl _
   unfold Dat at hd
   have HX2:Hid _:=hd
   obtain⟨-,-,rfl,-⟩:=hd
   have hta:(Instr.typeAssert (.iface 158 (.pointer (some ⟨E.α i,0,none⟩))) 58 212 true).run Tryz.prog wr=_:=run_assert_miss wr plainLab zeroLab (by decide)
   unfold ptrV at *
   clear hm hmin ha
   go_wp2_with fail
   go_ret
   exact⟨_,rfl,rfl,by rw[HD.out];unfold Dat;exact⟨HX2.out.1,HX2.out.2.1,rfl,HX2.out.2.2.2⟩⟩
  |pair i a b=>
   have HD:Hid (t= .pair i a b):=by show _=_;rw[←hm];exact meantD_hd rfl _
   unfold Dat at hd
   have HX2:Hid _:=hd
   obtain⟨-,-,rfl,-⟩:=hd
   have hta:(Instr.typeAssert (.iface 150 (.pointer (some ⟨E.α i,0,none⟩))) 58 212 true).run Tryz.prog wr=_:=run_assert_miss wr plainLab zeroLab (by decide)
   unfold ptrV at *
   clear hm hmin ha
   go_wp2_with fail
   go_ret
   exact⟨_,rfl,rfl,by rw[HD.out];unfold Dat;exact⟨HX2.out.1,HX2.out.2.1,rfl,HX2.out.2.2.2⟩⟩
  |vec i l=>
   have HD:Hid (t= .vec i l):=by show _=_;rw[←hm];exact meantD_hd rfl _
   unfold Dat at hd
   have HX2:Hid _:=hd
   obtain⟨-,-,rfl,-⟩:=hd
   have hta:(Instr.typeAssert (.iface 163 (.pointer (some ⟨E.α i,0,none⟩))) 58 212 true).run Tryz.prog wr=_:=run_assert_miss wr plainLab zeroLab (by decide)
   unfold ptrV at *
   clear hm hmin ha
   go_wp2_with fail
   go_ret
   exact⟨_,rfl,rfl,by rw[HD.out];unfold Dat;exact⟨HX2.out.1,HX2.out.2.1,rfl,HX2.out.2.2.2⟩⟩
end
structure MetOk (w0:World) (K:Nat) (κ:Nat→HK) (E:Env) (met:List (Nat×Nat)):Prop where
 at_:∀ p∈met,p.1<K∧HAt w0 (κ p.1) (E.α p.1)
 nd:(met.map (·.1)).Nodup
section
variable {w0 w:World} {G M K:Nat} {κ:Nat→HK} {E:Env} {g:GSt} {svs:List Value} {nv:Value}
theorem HAt.low {h:HK}{b:Nat}(x:HAt w0 h b)(hb:Below w0.heap.size w0 w):HAt w h b:=by
 obtain⟨c,hc⟩:=x
 exact⟨c,(hb.block b (Array.getElem?_eq_some_iff.1 hc).1).trans hc⟩
theorem Grown.refl (h:GrAt w0 w G M κ E g svs nv):Grown w0 w w G M κ E svs nv g:=⟨svs,nv,h,(Kp.refl G M w).a _,.inl rfl,fun sv hs _ hb=> .inl ⟨sv,hs,hb⟩⟩
theorem GrAt.look (h:GrAt w0 w G M κ E g svs nv)(hm:MetOk w0 K κ E g.met)(hinj:∀ i j,i<K→j<K→E.α i=E.α j→i=j){i:Nat}(hi:i<K)(hk:HAt w0 (κ i) (E.α i)):
 (Instr.lookup 98 (.map (some M)) (keyV (κ i) (E.α i)) true).run Tryz.prog w= .ok (.tuple #[.int .i64 (((g.met.lookup i).getD 0:Nat):Int),.bool (g.met.lookup i).isSome]) w:=
 run_metLook h.map i (hk.low h.low) (fun p hp=>(hm.at_ p hp).2.low h.low) (fun p hp e=>hinj i p.1 hi (hm.at_ p hp).1 e) hm.nd
theorem GrAt.met (h:GrAt w0 w G M κ E g svs nv){i k:Nat}{o:Obj}(hm:MapAt { w with heap:=w.heap.setIfInBounds M o } M (metL κ E ((i,k)::g.met))):
 GrAt w0 { w with heap:=w.heap.setIfInBounds M o } G M κ E { g with met:=(i,k)::g.met } svs nv∧KpA G M nv.ownBlock w { w with heap:=w.heap.setIfInBounds M o }:=by
 have ho:∀ b,b≠M→(w.heap.setIfInBounds M o)[b]? =w.heap[b]?:=fun b hb=>Array.getElem?_setIfInBounds_ne (fun e=>hb e.symm)
 obtain⟨es,c,hM,-⟩:=h.map
 refine⟨⟨h.gm,h.glo,h.mlo,⟨h.low.os,h.low.tape,h.low.output,?_,fun b hb=>?_⟩,(ho G h.gm).trans h.blk,?_,hm,h.len,fun j x sv hx hsv=>?_⟩,⟨rfl,rfl,rfl,by simp,fun b _ _ b3 _=>ho b b3⟩⟩
 ·have:=h.low.size;simpa using this
 ·have:=h.mlo
  exact(ho b (by omega)).trans (h.low.block b hb)
 ·refine⟨h.row.1,h.row.2.imp id ?_⟩
  rintro ⟨b,cp,cur,q1,q2,q3,q4⟩
  exact⟨b,cp,cur,q1,q2,(ho b (fun e=>by rw[e,hM] at q3;cases q3)).trans q3,q4⟩
 ·rcases h.subs j x sv hx hsv with q|⟨b,q1,q2,q3⟩
  ·exact .inl q
  ·exact .inr ⟨b,q1,q2,(ho b (fun e=>by rw[e,hM] at q3;cases q3)).trans q3⟩
theorem Grown.met {w1:World}{g1:GSt}(h:Grown w0 w w1 G M κ E svs nv g1){i k:Nat}{o:Obj}(hm:MapAt { w1 with heap:=w1.heap.setIfInBounds M o } M (metL κ E ((i,k)::g1.met))):
 Grown w0 w { w1 with heap:=w1.heap.setIfInBounds M o } G M κ E svs nv { g1 with met:=(i,k)::g1.met }:=by
 obtain⟨svs',nv',h1,h2,h3,h4⟩:=h
 obtain⟨k1,k2⟩:=h1.met hm
 exact⟨svs',nv',k1,h2.put k2 h3,h3,h4⟩
set_option maxHeartbeats 4000000 in
set_option maxRecDepth 100000 in
theorem text_any (h:GrAt w0 w G M κ E g svs nv)(hm:MetOk w0 K κ E g.met)(hinj:∀ i j,i<K→j<K→E.α i=E.α j→i=j){i:Nat}{s:List UInt8}(hi:i<K)(hk:κ i= .txt)(hx:w0.heap[E.α i]? =some (.cells #[.string ⟨⟨s⟩⟩] 218))(hlen:g.nodes.length+1≤1000000):
 Calls Tryz.prog 81 #[ptrV G,ptrV (E.α i)] w fun e w'=>∃ k g',(match g.met.lookup i with|some k=>some (k,g)|none=>some (g.nodes.length,⟨g.nodes++[⟨3,s,0,0,[]⟩],(i,g.nodes.length)::g.met⟩))=some (k,g')∧e= .returned (.int .i64 k)∧Grown w0 w w' G M κ E svs nv g':=by
 have hat:HAt w0 (κ i) (E.α i):=by rw[hk];exact⟨_,hx⟩
 have hlook:=h.look hm hinj hi hat
 have hG:G<w.heap.size:=(Array.getElem?_eq_some_iff.1 h.blk).1
 obtain⟨g0,g1⟩:w.cell? ⟨G,0,none⟩=some nv∧w.cell? ⟨G,1,none⟩=some (.map (some M)):=by
  constructor<;>simp[World.cell?,h.blk]
 have hx1:=(h.low.block (E.α i) (Array.getElem?_eq_some_iff.1 hx).1).trans hx
 have x0:w.cell? ⟨E.α i,0,none⟩=some (.string ⟨⟨s⟩⟩):=by simp[World.cell?,hx1]
 cases hq:g.met.lookup i with
 |some k=>
  rw[hq,hk] at hlook
  simp only[Option.getD_some,Option.isSome_some] at hlook
  have HG:Hid _:=Grown.refl h
  clear h hm hat hx hx1
  unfold keyV ptrV at hlook
  simp only[HK.p] at hlook
  unfold ptrV
  go_enter Tryz.func81,Tryz.ntmps81
  go_wp2_with fail
  go_ret
  exact⟨k,g,rfl,rfl,HG.out⟩
 |none=>
  rw[hq,hk] at hlook
  simp only[Option.getD_none,Option.isSome_none] at hlook
  have HC:Hid _:=gadd_any h ⟨3,s,0,0,[]⟩ rfl hlen
  have HM:Hid _:=hm
  have HAT:Hid _:=hat
  have HI:Hid _:=hinj
  clear h hm hat hx hx1 hinj
  unfold keyV ptrV at hlook
  simp only[HK.p] at hlook
  unfold ptrV nodeAgg at HC
  simp only at HC
  unfold ptrV
  go_enter Tryz.func81,Tryz.ntmps81
  go_wp2_with fail
  refine Calls.mono HC.out ?_
  rintro e w1 ⟨rfl,hgr⟩
  obtain⟨svs1,nv1,h1,-,-,-⟩:=id hgr
  have hmet:(g.add ⟨3,s,0,0,[]⟩).met=g.met:=rfl
  obtain⟨o,hput,hmap⟩:=run_metPut h1.map i g.nodes.length (HAt.low HAT.out h1.low) (fun p hp=>HAt.low (HM.out.at_ p hp).2 h1.low) (fun p hp e=>HI.out i p.1 hi (HM.out.at_ p hp).1 e) HM.out.nd hq
  have HGR:Hid _:=Grown.met hgr hmap
  obtain⟨y0,y1⟩:w1.cell? ⟨G,0,none⟩=some nv1∧w1.cell? ⟨G,1,none⟩=some (.map (some M)):=by
   constructor<;>simp[World.cell?,h1.blk]
  clear hgr h1 hmap HC hmet
  rw[hk] at hput
  unfold keyV ptrV at hput
  simp only[HK.p] at hput
  go_wp2_with fail
  go_ret
  exact⟨g.nodes.length,_,rfl,rfl,HGR.out⟩
end
end Go.Proofs.YtlhimdjkkiflhaaGreatDoor
namespace Go.Loop
def Dt.vlen:Dt→Nat
 | .vcons _ l=>l.vlen+1
 |_=>0
def goodB (root:Dt):Dt→Bool
 | .ask m=>(labD m root).isSome&&(meantD root 200000 (.ask m)).hd
 | .put n d=>(meantD root 200000 (.put n d)).hd&&goodB root d
 | .pair _ a b=>goodB root a&&goodB root b
 | .vec _ l=>decide (l.vlen≤1000)&&goodB root l
 | .vcons a l=>goodB root a&&goodB root l
 | .sym s=>decide (s.length≤1000000)
 |_=>true
theorem goodB_ask {root:Dt}:∀ {d:Dt},goodB root d=true→askB root d=true
 | .ask m,h=>by simp only[goodB,Bool.and_eq_true] at h;exact h.1
 | .put n d,h=>by simp only[goodB,Bool.and_eq_true] at h;exact goodB_ask (d:=d) h.2
 | .pair _ a b,h=>by simp only[goodB,askB,Bool.and_eq_true] at h ⊢;exact⟨goodB_ask h.1,goodB_ask h.2⟩
 | .vec _ l,h=>by simp only[goodB,Bool.and_eq_true] at h;exact goodB_ask (d:=l) h.2
 | .vcons a l,h=>by simp only[goodB,askB,Bool.and_eq_true] at h ⊢;exact⟨goodB_ask h.1,goodB_ask h.2⟩
 | .nil,_=>rfl
 | .sym _,_=>rfl
 | .num _ _,_=>rfl
 | .truth _,_=>rfl
 | .chr _,_=>rfl
 | .txt _ _,_=>rfl
 | .vnil,_=>rfl
theorem goodB_lab {root:Dt}{m:Int}:∀ {r d:Dt},goodB root r=true→labD m r=some d→goodB root d=true
 | .put n x,d,h,hl=>by
   simp only[goodB,Bool.and_eq_true] at h
   unfold labD at hl
   split at hl
   ·cases hl;exact h.2
   ·exact goodB_lab (r:=x) h.2 hl
 | .pair _ a b,d,h,hl=>by
   simp only[goodB,Bool.and_eq_true] at h
   unfold labD at hl
   cases hq:labD m a with
   |some x=>rw[hq] at hl;cases hl;exact goodB_lab h.1 hq
   |none=>rw[hq] at hl;exact goodB_lab h.2 hl
 | .vec _ l,d,h,hl=>by
   simp only[goodB,Bool.and_eq_true] at h
   unfold labD at hl
   exact goodB_lab (r:=l) h.2 hl
 | .vcons a l,d,h,hl=>by
   simp only[goodB,Bool.and_eq_true] at h
   unfold labD at hl
   cases hq:labD m a with
   |some x=>rw[hq] at hl;cases hl;exact goodB_lab h.1 hq
   |none=>rw[hq] at hl;exact goodB_lab h.2 hl
 | .nil,d,h,hl=>by simp[labD] at hl
 | .sym _,d,h,hl=>by simp[labD] at hl
 | .num _ _,d,h,hl=>by simp[labD] at hl
 | .truth _,d,h,hl=>by simp[labD] at hl
 | .chr _,d,h,hl=>by simp[labD] at hl
 | .txt _ _,d,h,hl=>by simp[labD] at hl
 | .vnil,d,h,hl=>by simp[labD] at hl
 | .ask _,d,h,hl=>by simp[labD] at hl
theorem goodB_meant {root:Dt}(hr:goodB root root=true):∀ (f:Nat) (d:Dt),goodB root d=true→goodB root (meantD root f d)=true
 |0,d,h=>h
 |f+1,.put n x,h=>by
  simp only[goodB,Bool.and_eq_true] at h
  exact goodB_meant hr f x h.2
 |f+1,.ask m,h=>by
  simp only[goodB,Bool.and_eq_true] at h
  obtain⟨d1,hd1⟩:=Option.isSome_iff_exists.1 h.1
  show goodB root (meantD root f ((labD m root).getD .nil))=true
  rw[hd1]
  exact goodB_meant hr f d1 (goodB_lab hr hd1)
 |f+1,.nil,h=>h
 |f+1,.sym _,h=>h
 |f+1,.num _ _,h=>h
 |f+1,.truth _,h=>h
 |f+1,.chr _,h=>h
 |f+1,.txt _ _,h=>h
 |f+1,.pair _ _ _,h=>h
 |f+1,.vec _ _,h=>h
 |f+1,.vnil,h=>h
 |f+1,.vcons _ _,h=>h
theorem num_grows (root:Dt):∀ n,(∀ d g k g',numN root n d g=some (k,g')→g.nodes.length≤g'.nodes.length)∧∀ l acc g ks g',numL root n l acc g=some (ks,g')→g.nodes.length≤g'.nodes.length
 |0=>⟨fun d g k g' h=>by simp[numN] at h,fun l acc g ks g' h=>by simp[numL] at h⟩
 |n+1=>by
  have ih:=num_grows root n
  refine⟨fun d g k g' h=>?_,fun l acc g ks g' h=>?_⟩
  ·unfold numN at h
   split at h
   ·split at h
    ·cases h;exact Nat.le_refl _
    ·obtain⟨y,hy,e⟩:=Option.map_eq_some_iff.1 h
     cases e
     have:=ih.2 _ _ _ _ _ hy
     simp[subsAt] at this ⊢;omega
   ·split at h
    ·cases h;exact Nat.le_refl _
    ·obtain⟨y,hy,e⟩:=Option.map_eq_some_iff.1 h
     cases e
     have:=ih.2 _ _ _ _ _ hy
     simp[subsAt] at this ⊢;omega
   ·split at h
    ·cases h;exact Nat.le_refl _
    ·cases h;simp
   all_goals (cases h;simp[GSt.add])
  ·unfold numL at h
   split at h
   ·cases h;exact Nat.le_refl _
   ·obtain⟨x,hx,e⟩:=Option.bind_eq_some_iff.1 h
    have:=ih.1 _ _ _ _ hx
    have:=ih.2 _ _ _ _ _ e
    omega
   ·cases h
end Go.Loop
namespace Go.Proofs.YtlhimdjkkiflhaaGreatDoor
open Go.RowKit Go.Loop
theorem infoIntN:(Tryz.prog.info? 3).map (fun i=>(i.zero,i.size,i.bytes))=some (some (.int .i64 0),1,8):=by kernel_rfl
structure Ground0 (w0:World) (lo K:Nat) (L:List Int) (κ:Nat→HK) (E:Env) (root:Dt):Prop where
 dat:∃ rv,Dat lo K L w0 E root rv
 good:goodB root root=true
 inj:∀ i j,i<K→j<K→E.α i=E.α j→i=j
 kind:∀ i h,i<K→HAt w0 h (E.α i)→κ i=h
section
variable (w0:World) (lo K:Nat) (L:List Int) (κ:Nat→HK) (E:Env) (root:Dt) (G M:Nat)
def NumOk (n:Nat):Prop:=∀ d v w g svs nv k g',Dat lo K L w0 E d v→goodB root d=true→GrAt w0 w G M κ E g svs nv→MetOk w0 K κ E g.met→numN root n d g=some (k,g')→g'.nodes.length≤999999→
 Calls Tryz.prog 48 #[ptrV G,v] w fun e w'=>e= .returned (.int .i64 (k:Nat))∧Grown w0 w w' G M κ E svs nv g'∧MetOk w0 K κ E g'.met
end
end Go.Proofs.YtlhimdjkkiflhaaGreatDoor
