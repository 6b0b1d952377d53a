import Derived.Deep.RegionLaw
import Derived.Deep.OwnRows
import Derived.Deep.Cut
import Derived.Deep.RegionWith
import Derived.Test.YtlhimdjkkiflhaaGreatDoorMade09
set_option maxHeartbeats 8000000
set_option maxRecDepth 100000
open Go.Value renaming int→Γ
open Go.IntKind renaming i64→Δ
open Go.Instr renaming typeAssert→Θ,findNow→η
open Go renaming Value→Λ,World→Ξ,Calls→Φ,TypeId→Ω,madeCells→ζ,Program→ι,TypeInfo→ξ
open Go.RowKit renaming Below→θ
open Go.Addr renaming add→π
namespace Go.Loop
def Dt.hd:Dt→Bool
 |.put _ _|.ask _|.cZ |.br _ _=>false
 |_=>true
section
variable (root:Dt)
mutual
def ie:Nat→Dt→fP→Option (Nat×fP)
 |0,_,_=>none
 |n+1,d,g=>
  match bQ root 200000 d with
  |.pair i a b=>
   match g.met.lookup i with
   |some k=>some (k,g)
   |none=>(ahF n (.br a (.br b .cZ)) [] ⟨g.nodes++[⟨1,[],0,0,[]⟩],(i,g.nodes.length)::g.met⟩).map λy=>(g.nodes.length,{ y.2 with nodes:=bE y.2.nodes g.nodes.length y.1 })
  |.vec i l=>
   match g.met.lookup i with
   |some k=>some (k,g)
   |none=>(ahF n l [] ⟨g.nodes++[⟨2,[],0,0,[]⟩],(i,g.nodes.length)::g.met⟩).map λy=>(g.nodes.length,{ y.2 with nodes:=bE y.2.nodes g.nodes.length y.1 })
  |.txt i s=>
   match g.met.lookup i with
   |some k=>some (k,g)
   |none=>some (g.nodes.length,⟨g.nodes++[⟨3,s,0,0,[]⟩],(i,g.nodes.length)::g.met⟩)
  |.sym s=>some (g.nodes.length,g.add ⟨4,s,0,0,[]⟩)
  |.num a b=>some (g.nodes.length,g.add ⟨5,[],a,b,[]⟩)
  |.cD a=>some (g.nodes.length,g.add ⟨6,[],a,0,[]⟩)
  |.kB a=>some (g.nodes.length,g.add ⟨7,[],a,0,[]⟩)
  |_=>some (g.nodes.length,g.add ⟨0,[],0,0,[]⟩)
def ahF:Nat→Dt→List Nat→fP→Option (List Nat×fP)
 |0,_,_,_=>none
 |n+1,l,acc,g=>
  match l with
  |.cZ=>some (acc,g)
  |.br a l=>(ie n a g).bind λx=>ahF n l (acc++[x.1]) x.2
  |_=>none
end
end
def cS (text:List UInt8)(depth:Int):Option (List eO×Nat×Int):=
 if depth<0∨30<depth then some ([],0,1)
 else if 400<text.length then some ([],0,2)
 else
  match ay (aw (text.length+1) text 0) depth.toNat 2000 ⟨0,false,[]⟩ ⟨0,0,[]⟩with
  |.out=>none
  |.fail e a=>some ([],a,e)
  |.ok d s=>(ie d 100000 d ⟨[],[]⟩).map λg=>if 150<g.2.nodes.length then([],0,2)else(g.2.nodes,(((aw (text.length+1) text 0)[s.k-1]?).map (·.gw)).getD 0,0)
end Go.Loop
namespace Go.Proofs.YtlhimdjkkiflhaaGreatDoor
open Go.Proofs.Tryz
open Go.RowKit Go.Loop
variable {w:Ξ}{b:Nat}
inductive HK where
 |pair
 |vec
 |txt
deriving DecidableEq
def HK.p:HK→Ω
 |.pair=>150
 |.vec=>163
 |.txt=>158
def HK.o:HK→Ω
 |.pair=>161
 |.vec=>165
 |.txt=>218
def kU (h:HK)(b:Nat):Λ:= .iface h.p (aC b)
def rI (w:Ξ)(h:HK)(b:Nat):Prop:=∃cs,w.heap[b]?=some (.cells cs h.o)
theorem rI.same {h h':HK}(x:rI w h b)(y:rI w h' b):h=h':=by
 obtain⟨c,hc⟩:=x;obtain⟨c',hc'⟩:=y;rw[hc]at hc';cases h<;>cases h'<;>first|rfl|(simp[HK.o]at hc')
theorem Fs:((prog.underlying 58).any λd=>match d with|.interface _=>true|_=>false)=true:=by kernel_rfl
theorem mS:∃ms,prog.underlying 58=some (.interface ms):=by
 have h:=Fs;cases hq:prog.underlying 58 with
 |none=>rw[hq]at h;cases h
 |some d=>
  rw[hq]at h;cases d<;>first|exact⟨_,rfl⟩|(simp at h)
section
variable {P:ι}
theorem mU (d:Nat){ti tx ty:Ω}{ms:Array (String×Ω)}{vx vy:Λ}(w:Ξ)(hi:P.underlying ti=some (.interface ms))(h:tx≠ty):(Op.equalIn (d+1) ti (.iface tx vx) (.iface ty vy)).run P w=.ok false w:=by
 simp[Op.equalIn,run_underlying hi,h]
theorem ry (b:Bool)(d:Nat){ti tp te:Ω}{ms:Array (String×Ω)}{i:ξ}{v:Λ}(w:Ξ)(hi:P.underlying ti=some (.interface ms))(hp:P.underlying tp=some (.pointer te))(oO:P.info? tp=some i)(BC:i.comparable=true):(Instr.checkKey b (d+2) ti (.iface tp v)).run P w=.ok () w:=by
 simp[Instr.checkKey,run_underlying hi,run_underlying hp,typeInfo,oO,BC]
end
theorem Fu:prog.underlying 98=some (.map 58 3):=by kernel_rfl
theorem Dd (h:HK):prog.underlying h.p=some (.pointer h.o):=by cases h<;>kernel_rfl
theorem Kl (h:HK):(prog.info? h.p).map (λi=>i.comparable)=some true:=by cases h<;>kernel_rfl
theorem Um (h:HK):(prog.info? h.o).any (λi=>i.size != 0)=true:=by cases h<;>kernel_rfl
theorem aa3 {h h':HK}{b':Nat}(x:rI w h b)(y:rI w h' b'):(Op.equal 58 (kU h b) (kU h' b')).run prog w=.ok (decide (b=b')) w:=by
 obtain⟨ms,hi⟩:=mS;have oO:=Kl h;cases hq:prog.info? h.p with
 |none=>rw[hq]at oO;cases oO
 |some i=>
  rw[hq]at oO;have BC:i.comparable=true:=by simpa using oO
  have Tv:=Um h;cases Bt:prog.info? h.o with
  |none=>rw[Bt]at Tv;cases Tv
  |some j=>
   rw[Bt]at Tv;have hsz:j.size≠0:=by simpa using Tv
   unfold kU aC Op.equal Op.maxDepth;by_cases e:b=b'
   ·subst e;obtain rfl:=x.same y;rw[run_equalIn_iface_ptr_same _ 9998 _ hi (Dd h) hq BC Bt];simp
   ·by_cases eh:h=h'
    ·subst eh;obtain⟨c,hc⟩:=x;obtain⟨c',hc'⟩:=y;rw[run_equalIn_iface_ptr_other _ 9998 hi (Dd h) hq BC Bt hsz (λq=>e (by cases q;rfl)) hc hc'];simp[e]
    ·have hp:h.p≠h'.p:=by cases h<;>cases h'<;>first|exact absurd rfl eh|(simp[HK.p])
     rw[mU 9999 w hi hp];simp[e]
def Fv (κ:Nat→HK)(E:Env)(met:List (Nat×Nat)):List (Λ×Λ):=met.reverse.map λp=>(kU (κ p.1) (E.α p.1),Γ Δ p.2)
theorem yE {α β:Type} [BEq α] [LawfulBEq α] (l:List (α×β))(i:α)(h:(l.map (·.1)).Nodup):l.reverse.lookup i=l.lookup i:=by
 induction l with
 |nil=>rfl
 |cons p l ih=>
  obtain⟨a,b⟩:=p;rw[zaB,zco]at h;rw[List.reverse_cons];rw[List.lookup_append,ih h.2];by_cases e:i=a
  ·subst e;have hn:l.lookup i=none:=by
    rw[List.lookup_eq_none_iff];intro q hq;have:q.1≠i:=λe=>h.1 (zbo.2 ⟨q,hq,e⟩);simpa using λe=>this e.symm
   simp[hn]
  ·have he:(i==a)=false:=by simpa using e
   simp only[List.lookup_cons,he];simp
theorem De {w:Ξ}{κ:Nat→HK}{E:Env}{i:Nat}:∀(es:List MapEntry) (l:List (Nat×Nat)) (n:Nat),es.map (λe=>(e.key,e.val))=l.map (λp=>(kU (κ p.1) (E.α p.1),Λ.int .i64 p.2))→rI w (κ i) (E.α i)→(∀p∈l,rI w (κ p.1) (E.α p.1))→(∀p∈l,E.α i=E.α p.1→i=p.1)→∃j,(Instr.findAsking 58 (kU (κ i) (E.α i)) es n).run prog w=.ok ((l.lookup i).map λk=>(j,Λ.int .i64 k)) w
 |[],[],n,_,_,_,_=>⟨0,by simp[Instr.findAsking]⟩
 |[],_::_,_,h,_,_,_=>by simp at h
 |_::_,[],_,h,_,_,_=>by simp at h
 |e::es,(m,v)::l,n,h,hi,hl,Ar=>by
  simp only[zaB,zcN,zaf]at h;obtain⟨⟨h1,h2⟩,h3⟩:=h;unfold Instr.findAsking;rw[h1];have heq:=aa3 hi (hl _ zaD);by_cases hn:i=m
  ·subst hn;exact⟨n,by simp[heq,h2]⟩
  ·have hne:E.α i≠E.α m:=λe=>hn (Ar _ zaD e);obtain⟨j,hj⟩:=De es l (n+1) h3 hi (λp hp=>hl p (zaQ _ hp)) (λp hp=>Ar p (zaQ _ hp));refine⟨j,?_⟩;have hb:(i==m)=false:=by simpa using hn
   simp[heq,hne,hj,List.lookup_cons,hb]
theorem yF (b:Bool)(h:HK)(c:Nat)(w:Ξ):(Instr.checkKey b 10000 58 (kU h c)).run prog w=.ok () w:=by
 obtain⟨ms,hi⟩:=mS;have oO:=Kl h;cases hq:prog.info? h.p with
 |none=>rw[hq]at oO;cases oO
 |some i=>
  rw[hq]at oO;have BC:i.comparable=true:=by simpa using oO
  exact ry b 9998 w hi (Dd h) hq BC
section
variable {w:Ξ}{M:Nat}{κ:Nat→HK}{E:Env}{met:List (Nat×Nat)}
theorem Fw (h:nQ w M (Fv κ E met))(i:Nat)(hi:rI w (κ i) (E.α i))(hl:∀p∈met,rI w (κ p.1) (E.α p.1))(Ar:∀p∈met,E.α i=E.α p.1→i=p.1)(hnd:(met.map (·.1)).Nodup):(Instr.lookup 98 (.map (some M)) (kU (κ i) (E.α i)) true).run prog w=.ok (.tuple #[Γ Δ (((met.lookup i).getD 0:Nat):Int),.bool (met.lookup i).isSome]) w:=by
 obtain⟨es,clock,h1,h2⟩:=h;obtain⟨ms,hint⟩:=mS;have hg:(getObj M).run prog w=.ok (.map es clock) w:=by simp[getObj,Sem.run,h1]
 obtain⟨j,hj⟩:=De (w:=w) (κ:=κ) (E:=E) (i:=i) es.toList met.reverse 0 h2 hi (λp hp=>hl p (List.mem_reverse.1 hp)) (λp hp=>Ar p (List.mem_reverse.1 hp));rw[yE _ _ hnd]at hj;unfold Instr.lookup Instr.findKey;simp only[zba,zbc Fu,zbb,hg,zbd,yF,zbc hint];cases hes:es.toList with
 |nil=>
  rw[hes]at hj h2;have hm:met=[]:=by
   have:met.reverse=[]:=by
    have:=zak List.length h2;unfold Fv at this;simp at this;exact List.reverse_eq_nil_iff.2 (zcf this.symm)
   simpa using this
  subst hm;simp[η]
 |cons e es'=>
  rw[hes]at hj;have hs:η (.interface ms) (kU (κ i) (E.α i)) (e::es') 0=none:=by simp[η,Instr.sameNow]
  simp only[hs,hj];cases hq:met.lookup i with
  |none=>simp
  |some v=>simp
theorem yG (h:nQ w M (Fv κ E met))(i k:Nat)(hi:rI w (κ i) (E.α i))(hl:∀p∈met,rI w (κ p.1) (E.α p.1))(Ar:∀p∈met,E.α i=E.α p.1→i=p.1)(hnd:(met.map (·.1)).Nodup)(hn:met.lookup i=none):∃o,(Instr.mapUpdate 98 (.map (some M)) (kU (κ i) (E.α i)) (Γ Δ k)).run prog w=.ok () { w with heap:=w.heap.setIfInBounds M o }∧nQ { w with heap:=w.heap.setIfInBounds M o } M (Fv κ E ((i,k)::met)):=by
 obtain⟨es,clock,h1,h2⟩:=h;obtain⟨ms,hint⟩:=mS;have hlt:M<w.heap.size:=(zaj.1 h1).1;have hg:(getObj M).run prog w=.ok (.map es clock) w:=by simp[getObj,Sem.run,h1]
 obtain⟨j,hj⟩:=De (w:=w) (κ:=κ) (E:=E) (i:=i) es.toList met.reverse 0 h2 hi (λp hp=>hl p (List.mem_reverse.1 hp)) (λp hp=>Ar p (List.mem_reverse.1 hp));rw[yE _ _ hnd,hn]at hj;refine⟨.map (es.push { key:=kU (κ i) (E.α i),val:= Γ Δ k,born:=clock }) (clock+1),?_,es.push { key:=kU (κ i) (E.α i),val:= Γ Δ k,born:=clock },clock+1,?_,?_⟩
 ·unfold Instr.mapUpdate Instr.findKey;simp only[zba,zbc Fu,zbb,hg,yF,zbc hint];cases hes:es.toList with
  |nil=>simp[η,setObj,Sem.run,h1]
  |cons e es'=>
   rw[hes]at hj;have hs:η (.interface ms) (kU (κ i) (E.α i)) (e::es') 0=none:=by simp[η,Instr.sameNow]
   simp only[hs,hj];simp[setObj,Sem.run,h1]
 ·show(w.heap.setIfInBounds M _)[M]?=_;rw[zbG hlt]
 ·rw[Array.toList_push,zcO,h2];simp[Fv]
end
section
variable {P:ι}
theorem vR (w:Ξ)(base:Nat)(t ty e:Ω)(i:ξ)(z:Λ)(sz y:Nat)(ht:P.underlying t=some (.slice e))(hi:P.info? e=some i)(hz:i.zero=some z)
 (hsize:i.size=sz)(hby:i.bytes=y)(hsz:0<sz)(hy:y≤100)(hzs:z.cells.size=sz)
 (v:Λ)(n:Nat)(xs:List Λ)(hown:w.ownsRow base e sz v n xs)
 (a:Addr)(m c:Nat)(news:List Λ)(hm:m≠0)(hl:news.length=m*sz)(hnews:∀j u,news[j]?=some u→w.cell? (a.add j)=some u)(h1:∀u∈news,u.oneCell'=true)
 (hlen:n+m≤1000000)(hbase:base≤w.heap.size):
 ∃v' w',(Builtin.append_ #[t,t] ty #[v,.slice (some a) m c]).run P w=.ok v' w'∧w'.ownsRow base e sz v' (n+m) (xs++news)∧w.grownBy w' v.ownBlock∧
  (v'.ownBlock=v.ownBlock∨∃k,v'.ownBlock=some k∧w.heap.size≤k):=by
 have h63:n+m≤maxLen:=by unfold maxLen;omega
 have hbytes:(n+m)*y≤140737488355328:=zag (Nat.mul_le_mul hlen hy) (by decide);obtain⟨v',w',hr,h2,h3,h4⟩:=run_append_own (P:=P) w base t ty e i z sz y ht hi hz hsize hby hzs hsz v n xs hown a m c news hl hnews h1 h63 hbytes hbase;refine⟨v',w',hr,h2,h3,?_⟩;have Ir:n+m≤9223372036854775807:=by omega
 rcases hown.2 with⟨rfl,rfl⟩|⟨g,cap,cur,rfl,hbg,hg,hnc,hcm,hcs,Fl⟩
 ·have qy:=run_append_nil (P:=P) w t ty e i z ht hi hz a m c news (by rw[hsize];exact hl) hnews (by omega) (by omega) (by rw[hby];first|exact growslice_fits (by omega) (by simpa using hbytes)|exact zag (Nat.mul_le_mul (show m≤1000000 by omega) hy) (by decide));rw[qy]at hr;injection hr with a b;rw[←a];exact Or.inr ⟨_,rfl,zac _⟩
 ·by_cases hroom:n+m≤cap
  ·have qy:=run_append_room (P:=P) w t ty e i ht hi g n cap cur hg a m c news (by rw[hsize];exact hl) hnews h1 hroom (by rw[hsize,hcs,hl,←Nat.add_mul];exact Nat.mul_le_mul hroom (zac _));rw[qy]at hr;injection hr with a b;rw[←a];exact Or.inl rfl
  ·have holds:∀j u,xs[j]?=some u→w.cell? ((⟨g,0,none⟩:Addr).add j)=some u:=hown.cells (g:=g) rfl;have qy:=run_append_grow (P:=P) w t ty e i z ht hi hz ⟨g,0,none⟩ n cap xs (by rw[hsize];exact hown.1) holds a m c news (by rw[hsize];exact hl) hnews (by omega) (by omega) (by rw[hby];exact growslice_fits (by omega) hbytes);rw[qy]at hr;injection hr with a b;rw[←a];exact Or.inr ⟨_,rfl,zac _⟩
theorem uw {ops:Array Oper}{o:Oper}{a:Act}{K:Act→Ξ→Prop}{Q:Exit→Act→Ξ→Prop}{X:Prop}
 (hg:o.guard=none)(s x:Operand)(t:Ω)(hop:o.op=Op.call { callee:=Callee.builtin Builtin.append,args:=#[s,x],argTypes:=#[t,t] })
 (base:Nat)(e:Ω)(i:ξ)(z:Λ)(sz y:Nat)(ht:P.underlying t=some (.slice e))(hi:P.info? e=some i)(hz:i.zero=some z)
 (hsize:i.size=sz)(hby:i.bytes=y)(hsz:0<sz)(hy:y≤100)(hzs:z.cells.size=sz)
 (v:Λ)(n:Nat)(xs:List Λ)(hs:a.eval s=v)(hown:w.ownsRow base e sz v n xs)
 (ad:Addr)(m c:Nat)(news:List Λ)(hx:a.eval x=.slice (some ad) m c)(hm:m≠0)(hl:news.length=m*sz)(hnews:∀j u,news[j]?=some u→w.cell? (ad.add j)=some u)(h1:∀u∈news,u.oneCell'=true)
 (hlen:n+m≤1000000)(hbase:base≤w.heap.size)
 (hK:∀v' w',w'.ownsRow base e sz v' (n+m) (xs++news)→w.grownBy w' v.ownBlock→(v'.ownBlock=v.ownBlock∨∃k,v'.ownBlock=some k∧w.heap.size≤k)→K (a.put o.dst v') w'):
 if Region.wanted o (yielded ops a.tmps)=true then Oper.wp P o a w K Q else X:=by
 have hw:Region.wanted o (yielded ops a.tmps)=true:=by simp[Region.wanted,hg]
 rw[zab hw];obtain⟨v',w',hr,h2,h3,h4⟩:=vR (P:=P) w base t o.type e i z sz y ht hi hz hsize hby hsz hy hzs v n xs hown ad m c news hm hl hnews h1 hlen hbase;unfold Oper.wp;simp only[execOp,hop,resolve,invoke,builtin,zba,zbd,zbb,zbR,zaB,zbt,hs,hx,hr];exact hK v' w' h2 h3 h4
end
theorem Mw:(prog.info? 45).map (λi=>(i.zero,i.size,i.bytes))=some (some (.agg #[Γ Δ 0,.string ⟨#[]⟩,Γ Δ 0,Γ Δ 0,.slice none 0 0]),5,64):=by kernel_rfl
theorem IL:prog.underlying 28=some (.slice 45):=by kernel_rfl
def oQ (x:eO)(sv:Λ):List Λ:=[Γ Δ x.kind,.string ⟨⟨x.text⟩⟩,Γ Δ x.n,Γ Δ x.d,sv]
def tL:List eO→List Λ→List Λ
 |x::l,sv::bN=>oQ x sv++tL l bN
 |_,_=>[]
def Xg (w:Ξ)(base:Nat)(sv:Λ)(l:List Nat):Prop:=
 (sv=.slice none 0 0∧l=[])∨∃b,sv=.slice (some ⟨b,0,none⟩) l.length l.length∧base≤b∧w.heap[b]?=some (.cells (l.map λk:Nat=>Λ.int .i64 (k:Int)).toArray 3)
structure eG (w0 w:Ξ) (G M:Nat) (κ:Nat→HK) (E:Env) (g:fP) (bN:List Λ) (nv:Λ):Prop where
 gm:G≠M
 glo:w0.heap.size≤G
 mlo:w0.heap.size≤M
 low:θ w0.heap.size w0 w
 blk:w.heap[G]?=some (.cells #[nv,.map (some M)] 100)
 row:w.ownsRow w0.heap.size 45 5 nv g.nodes.length (tL g.nodes bN)
 map:nQ w M (Fv κ E g.met)
 len:bN.length=g.nodes.length
 subs:∀(j:Nat) x sv,g.nodes[j]?=some x→bN[j]?=some sv→Xg w w0.heap.size sv x.subs
theorem FI:∀(l:List eO) (bN:List Λ) (x:eO) (sv:Λ),bN.length=l.length→tL (l++[x]) (bN++[sv])=tL l bN++oQ x sv
 |[],[],x,sv,_=>by simp[tL]
 |[],_::_,_,_,h=>by simp at h
 |_::_,[],_,_,h=>by simp at h
 |y::l,s::bN,x,sv,h=>by
  have:=FI l bN x sv (by simpa using h);simp only[zam,tL,this,zbK]
section
variable {w0 w:Ξ}{G M:Nat}{κ:Nat→HK}{E:Env}{g:fP}{bN:List Λ}{nv:Λ}
def P5 (w:Ξ)(bN yJ:List Λ):Prop:=∀sv∈yJ,∀b,sv.ownBlock=some b→(∃sv0∈bN,sv0.ownBlock=some b)∨w.heap.size≤b
def Grown (w0 w w':Ξ)(G M:Nat)(κ:Nat→HK)(E:Env)(bN:List Λ)(nv:Λ)(g':fP):Prop:=
 ∃yJ Uw,eG w0 w' G M κ E g' yJ Uw∧jO G M nv.ownBlock w w'∧(Uw.ownBlock=nv.ownBlock∨∃b,Uw.ownBlock=some b∧w.heap.size≤b)∧P5 w bN yJ
def kt (x:eO):Λ:= .agg #[Γ Δ x.kind,.string ⟨⟨x.text⟩⟩,Γ Δ x.n,Γ Δ x.d,.slice none 0 0]
theorem eG.ux (h:eG w0 w G M κ E g bN nv)(b:Nat)(o:Obj)(hb:w.heap[b]?=some o)(ho:∀cur,o≠.cells cur 45):some b≠nv.ownBlock:=by
 intro e;rcases h.row.2 with⟨rfl,_⟩|⟨c,cap,cur,rfl,_,hg,_⟩
 ·cases e
 ·have:b=c:=by cases e;rfl
  rw[this,hg]at hb;exact ho cur (by cases hb;rfl)
theorem Mx (h:eG w0 w G M κ E g bN nv)(x:eO)(hx:x.subs=[]){w1 w4:Ξ}{v':Λ}(hb1:θ w.heap.size w w1)(hrow:w4.ownsRow w0.heap.size 45 5 v' (g.nodes.length+1) (tL g.nodes bN++oQ x (.slice none 0 0)))(hg:w1.grownBy w4 nv.ownBlock)
 (kT:v'.ownBlock=nv.ownBlock∨∃k,v'.ownBlock=some k∧w1.heap.size≤k):
 w4.heap[G]?=some (.cells #[nv,.map (some M)] 100)∧Grown w0 w (w4.setCell ⟨G,0,none⟩ v') G M κ E bN nv (g.add x):=by
 have hs1:=hb1.size;have NB:=hg.size;have hb:∀b,b<w.heap.size→some b≠nv.ownBlock→w4.heap[b]?=w.heap[b]?:=λb h1 h2=>(hg.block b (by omega) h2).trans (hb1.block b h1);have hG:G<w.heap.size:=(zaj.1 h.blk).1;obtain⟨es,c,hm,YR⟩:=h.map;have hM:M<w.heap.size:=(zaj.1 hm).1;have qG:=h.ux G _ h.blk (λcur e=>by simp at e);have qM:=h.ux M _ hm (λcur e=>by simp at e);have h4:w4.heap[G]?=some (.cells #[nv,.map (some M)] 100):=(hb G hG qG).trans h.blk;have ho:∀b,b≠G→(w4.setCell ⟨G,0,none⟩ v').heap[b]?=w4.heap[b]?:=λb hb=>zax _ _ _ _ hb;have BL:∀b,nv.ownBlock=some b→w0.heap.size≤b:=λb hb=>(h.row.lt b hb).1;refine⟨h4,bN++[.slice none 0 0],v',⟨h.gm,h.glo,h.mlo,⟨hg.os.trans (hb1.os.trans h.low.os),hg.tape.trans (hb1.tape.trans h.low.tape),hg.output.trans (hb1.output.trans h.low.output),?_,λb b1=>?_⟩,eE h4 0 v',?_,?_,?_,λj y sv hy rM=>?_⟩,⟨hg.os.trans hb1.os,hg.tape.trans hb1.tape,hg.output.trans hb1.output,?_,λb b1 b2 _ b4=>(ho b b2).trans (hb b b1 b4)⟩,kT.imp id (λ⟨k,k1,k2⟩=>⟨k,k1,by omega⟩),λsv rM b hb=>?_⟩
 ·have:=h.low.size;simp;omega
 ·have:=h.glo;have hl:=h.low.size;rw[ho b (by omega),hb b (by omega) (λe=>by have:=BL b e.symm;omega)];exact h.low.block b b1
 ·have e:tL (g.add x).nodes (bN++[.slice none 0 0])=tL g.nodes bN++oQ x (.slice none 0 0):=FI _ _ _ _ h.len;have e2:(g.add x).nodes.length=g.nodes.length+1:=by simp[fP.add]
  rw[e,e2];refine⟨hrow.1,hrow.2.imp id ?_⟩;rintro ⟨b,cp,cur,q1,q2,q3,q4⟩;exact⟨b,cp,cur,q1,q2,(ho b (λe=>by rw[e,h4]at q3;simp at q3)).trans q3,q4⟩
 ·exact⟨es,c,(ho M (λe=>h.gm e.symm)).trans ((hb M hM qM).trans hm),YR⟩
 ·simp[fP.add,h.len]
 ·simp only[fP.add]at hy;rcases zaw j g.nodes.length with hj|hj
  ·rw[zbi hj]at hy;rw[zbi (by rw[h.len];exact hj)]at rM;rcases h.subs j y sv hy rM with q|⟨b,q1,q2,q3⟩
   ·exact .inl q
   ·refine .inr ⟨b,q1,q2,?_⟩;rw[ho b (λe=>by rw[e,h.blk]at q3;simp at q3),hb b (zaj.1 q3).1 (h.ux b _ q3 (λcur e=>by simp at e))];exact q3
  ·have ej:j=g.nodes.length:=by
    have:=(zbh.1 hy).1;simp at this;omega
   subst ej;rw[zbv (zac _)]at hy;rw[zbv (by rw[h.len];exact zac _),h.len]at rM;simp at hy rM;subst hy rM;exact .inl ⟨rfl,hx⟩
 ·simp;omega
 ·rcases zaF.1 rM with h1|h1
  ·exact .inl ⟨sv,h1,hb⟩
  ·simp at h1;subst h1;cases hb
theorem Ux (h:eG w0 w G M κ E g bN nv)(x:eO)(hx:x.subs=[]){w1 w4:Ξ}{v':Λ}(hb1:θ w.heap.size w w1)(hrow:w4.ownsRow w0.heap.size 45 5 v' (g.nodes.length+1) (tL g.nodes bN++oQ x (.slice none 0 0)))(hg:w1.grownBy w4 nv.ownBlock)
 (kT:v'.ownBlock=nv.ownBlock∨∃k,v'.ownBlock=some k∧w1.heap.size≤k):
 ∃a1 c1,v'=.slice a1 (g.nodes.length+1) c1∧w4.cell? ⟨G,0,none⟩=some nv∧w4.frozen? ⟨G,0,none⟩=false∧Hid (Grown w0 w (w4.setCell ⟨G,0,none⟩ v') G M κ E bN nv (g.add x)):=by
 obtain⟨h4,hgr⟩:=Mx h x hx hb1 hrow hg kT;obtain⟨a1,c1,e⟩:=bD hrow;exact⟨a1,c1,e,by simp[Ξ.cell?,h4],by simp[Ξ.frozen?,h4],hgr⟩
theorem My {W:Ξ}{x:eO}{t:Ω}(h:W.heap[b]?=some (.cells #[Γ Δ x.kind,.string ⟨⟨x.text⟩⟩,Γ Δ x.n,Γ Δ x.d,.slice none 0 0] t))(j:Nat)(u:Λ)(hu:(oQ x (.slice none 0 0))[j]?=some u):W.cell? ((⟨b,0,none⟩:Addr).add j)=some u:=by
 match j,hu with
 |0,hu=>simpa[Ξ.cell?,π,h,oQ]using hu
 |1,hu=>simpa[Ξ.cell?,π,h,oQ]using hu
 |2,hu=>simpa[Ξ.cell?,π,h,oQ]using hu
 |3,hu=>simpa[Ξ.cell?,π,h,oQ]using hu
 |4,hu=>simpa[Ξ.cell?,π,h,oQ]using hu
 |j+5,hu=>simp[oQ]at hu
theorem kW (h:eG w0 w G M κ E g bN nv)(x:eO)(hx:x.subs=[])(hlen:g.nodes.length+1≤1000000):Φ prog 82 #[aC G,kt x] w λe w'=>e=.returned (Γ Δ g.nodes.length)∧Grown w0 w w' G M κ E bN nv (g.add x):=by
 have mixed:prog.follows Departure.mixedOrders=true:=by kernel_rfl
 have hG:G<w.heap.size:=(zaj.1 h.blk).1;obtain⟨a0,c0,rfl⟩:=bD h.row;obtain⟨g0,g1⟩:w.cell? ⟨G,0,none⟩=some (.slice a0 g.nodes.length c0)∧w.cell? ⟨G,1,none⟩=some (.map (some M)):=by
  constructor<;>simp[Ξ.cell?,h.blk]
 obtain⟨i0,hi,hz0,hz1,hz2⟩:=info_parts Mw;have HG:Hid _:=h;have e1:¬G=w.heap.size:=by omega
 have e2:¬G=w.heap.size+1:=by omega
 have e3:G<w.heap.size+1:=by omega
 have hb1:θ w.heap.size w (((w.alloc (.cells #[Γ Δ x.kind,.string ⟨⟨x.text⟩⟩,Γ Δ x.n,Γ Δ x.d,.slice none 0 0] 45)).alloc (.cells #[Γ Δ x.kind,.string ⟨⟨x.text⟩⟩,Γ Δ x.n,Γ Δ x.d,.slice none 0 0] 45)).drew):=(((zad _ _).alloc (zac _) _).alloc (by simp) _).drew;have jb:Hid _:=hb1;have ku:Hid ((((w.alloc (.cells #[Γ Δ x.kind,.string ⟨⟨x.text⟩⟩,Γ Δ x.n,Γ Δ x.d,.slice none 0 0] 45)).alloc (.cells #[Γ Δ x.kind,.string ⟨⟨x.text⟩⟩,Γ Δ x.n,Γ Δ x.d,.slice none 0 0] 45)).drew).ownsRow w0.heap.size 45 5 (.slice a0 g.nodes.length c0) g.nodes.length (tL g.nodes bN)):=bC h.row (zac _) λb _ hb=>hb1.block b hb;have YS:Hid (∀(j:Nat) u,(oQ x (.slice none 0 0))[j]?=some u→(((w.alloc (.cells #[Γ Δ x.kind,.string ⟨⟨x.text⟩⟩,Γ Δ x.n,Γ Δ x.d,.slice none 0 0] 45)).alloc (.cells #[Γ Δ x.kind,.string ⟨⟨x.text⟩⟩,Γ Δ x.n,Γ Δ x.d,.slice none 0 0] 45)).drew).cell? ((⟨w.heap.size+1,0,none⟩:Addr).add j)=some u):=My (en w _ _);have adJ:Hid (∀u∈oQ x (.slice none 0 0),u.oneCell'=true):=λu hu=>by
  simp[oQ]at hu;rcases hu with rfl|rfl|rfl|rfl|rfl<;>rfl
 have aa9:Hid (w0.heap.size≤(((w.alloc (.cells #[Γ Δ x.kind,.string ⟨⟨x.text⟩⟩,Γ Δ x.n,Γ Δ x.d,.slice none 0 0] 45)).alloc (.cells #[Γ Δ x.kind,.string ⟨⟨x.text⟩⟩,Γ Δ x.n,Γ Δ x.d,.slice none 0 0] 45)).drew).heap.size):=zag h.low.size hb1.size;clear h hb1;unfold aC kt;go_enter func82,ntmps82;go_wp2_with fail
 go_region_law (refine uw rfl (.tmp 9) (.tmp 11) 28 rfl w0.heap.size 45 i0 _ 5 64 IL hi hz0 hz1 hz2 (by decide) (by decide) rfl (.slice a0 g.nodes.length c0) g.nodes.length (tL g.nodes bN) rfl ku.out ⟨w.heap.size+1,0,none⟩ 1 1 (oQ x (.slice none 0 0)) rfl (by decide) rfl YS.out adJ.out hlen aa9.out ?_;intro v' w4 hown' hgrow kT;obtain⟨a1,c1,rfl,c4,f4,G3⟩:=Ux HG.out x hx jb.out hown' hgrow kT;clear hown' hgrow kT)
 all_goals
  go_wp2_with fail;go_ret;exact⟨rfl,G3.out⟩
end
end Go.Proofs.YtlhimdjkkiflhaaGreatDoor
namespace Go.Loop
open Go.Proofs.Tryz
def qi (root:Dt):Dt→Bool
 |.ask m=>(aO m root).isSome
 |.put _ d=>qi root d
 |.pair _ a b=>qi root a&&qi root b
 |.vec _ l=>qi root l
 |.br a l=>qi root a&&qi root l
 |_=>true
theorem kX {root:Dt}{m:Int}:∀{r d:Dt},qi root r=true→aO m r=some d→qi root d=true
 |.put n x,d,h,hl=>by
  unfold aO at hl;split at hl
  ·cases hl;exact h
  ·exact kX (r:=x) h hl
 |.pair _ a b,d,h,hl=>by
  simp only[qi,zae]at h;unfold aO at hl;cases hq:aO m a with
  |some x=>rw[hq]at hl;cases hl;exact kX h.1 hq
  |none=>rw[hq]at hl;exact kX h.2 hl
 |.vec _ l,d,h,hl=>by
  unfold aO at hl;exact kX (r:=l) h hl
 |.br a l,d,h,hl=>by
  simp only[qi,zae]at h;unfold aO at hl;cases hq:aO m a with
  |some x=>rw[hq]at hl;cases hl;exact kX h.1 hq
  |none=>rw[hq]at hl;exact kX h.2 hl
 |.nil,d,h,hl=>by simp[aO]at hl
 |.sym _,d,h,hl=>by simp[aO]at hl
 |.num _ _,d,h,hl=>by simp[aO]at hl
 |.cD _,d,h,hl=>by simp[aO]at hl
 |.kB _,d,h,hl=>by simp[aO]at hl
 |.txt _ _,d,h,hl=>by simp[aO]at hl
 |.cZ,d,h,hl=>by simp[aO]at hl
 |.ask _,d,h,hl=>by simp[aO]at hl
theorem iv {root:Dt}{d:Dt}(h:d.hd=true)(f:Nat):bQ root f d=d:=by
 cases f with
 |zero=>rfl
 |succ f=>cases d<;>first|rfl|(simp[Dt.hd]at h)
theorem IM {Q:Nat→Prop}(h:∃n,Q n):∃n,Q n∧∀m,Q m→n≤m:=by
 obtain⟨n,hn⟩:=h
 induction n using Nat.strongRecOn with
 |_ n ih=>
  by_cases e:∃m,m<n∧Q m
  ·obtain⟨m,h1,h2⟩:=e;exact ih m h1 h2
  ·exact⟨n,hn,λm hm=>Nat.le_of_not_lt λhlt=>e ⟨m,hlt,hm⟩⟩
end Go.Loop
namespace Go.Proofs.YtlhimdjkkiflhaaGreatDoor
open Go.Proofs.Tryz
open Go.RowKit Go.Loop
section
variable {lo K:Nat}{L:List Int}{w:Ξ}{E:Env}
mutual
theorem ct.cE {m:Int}:∀{r d:Dt} {v:Λ},ct lo K L w E r v→aO m r=some d→∃v',w.heap[E.cE m]?=some (.cells #[v'] 215)∧ct lo K L w E d v'
 |.put n x,d,v,h,hl=>by
  unfold ct at h;unfold aO at hl;split at hl
  ·rename_i e;subst e;cases hl;exact⟨v,h.2.2.1,h.2.2.2⟩
  ·exact ct.cE h.2.2.2 hl
 |.pair _ a b,d,v,h,hl=>by
  unfold ct at h;obtain⟨_,_,_,va,vb,_,h1,h2⟩:=h;unfold aO at hl;cases hq:aO m a with
  |some x=>rw[hq]at hl;cases hl;exact ct.cE h1 hq
  |none=>rw[hq]at hl;exact ct.cE h2 hl
 |.vec _ l,d,v,h,hl=>by
  unfold ct at h;obtain⟨_,_,_,sl,vs,_,_,h1⟩:=h;unfold aO at hl;exact df.cE h1 hl
 |.br a l,d,v,h,hl=>by unfold ct at h;exact h.elim
 |.nil,d,v,h,hl=>by simp[aO]at hl
 |.sym _,d,v,h,hl=>by simp[aO]at hl
 |.num _ _,d,v,h,hl=>by simp[aO]at hl
 |.cD _,d,v,h,hl=>by simp[aO]at hl
 |.kB _,d,v,h,hl=>by simp[aO]at hl
 |.txt _ _,d,v,h,hl=>by simp[aO]at hl
 |.cZ,d,v,h,hl=>by simp[aO]at hl
 |.ask _,d,v,h,hl=>by simp[aO]at hl
theorem df.cE {m:Int}:∀{r d:Dt} {vs:List Λ},df lo K L w E r vs→aO m r=some d→∃v',w.heap[E.cE m]?=some (.cells #[v'] 215)∧ct lo K L w E d v'
 |.br a l,d,vs,h,hl=>by
  unfold df at h;obtain⟨v,r,_,h1,h2⟩:=h;unfold aO at hl;cases hq:aO m a with
  |some x=>rw[hq]at hl;cases hl;exact ct.cE h1 hq
  |none=>rw[hq]at hl;exact df.cE h2 hl
 |.cZ,d,v,h,hl=>by simp[aO]at hl
 |.put _ _,d,v,h,hl=>by unfold df at h;exact h.elim
 |.pair _ _ _,d,v,h,hl=>by unfold df at h;exact h.elim
 |.vec _ _,d,v,h,hl=>by unfold df at h;exact h.elim
 |.nil,d,v,h,hl=>by simp[aO]at hl
 |.sym _,d,v,h,hl=>by simp[aO]at hl
 |.num _ _,d,v,h,hl=>by simp[aO]at hl
 |.cD _,d,v,h,hl=>by simp[aO]at hl
 |.kB _,d,v,h,hl=>by simp[aO]at hl
 |.txt _ _,d,v,h,hl=>by simp[aO]at hl
 |.ask _,d,v,h,hl=>by simp[aO]at hl
end
section
variable {P:ι}
def jY (P:ι)(A:Ω):Bool:=(P.underlying A).any λd=>match d with|.interface _=>false|_=>true
theorem dM {A x:Ω}{v:Λ}(w:Ξ)(hu:jY P A=true):(Θ (.iface A v) x A true).run P w=.ok (.tuple #[v,.bool true]) w:=by
 unfold jY at hu;cases hq:P.underlying A with
 |none=>rw[hq]at hu;cases hu
 |some d=>
  rw[hq]at hu;cases d<;>first|(simp at hu;done)|simp[Θ,run_underlying hq]
theorem au {t A x:Ω}{v z:Λ}(w:Ξ)(hu:jY P A=true)(hz:(P.info? A).bind (·.zero)=some z)(h:t≠A):(Θ (.iface t v) x A true).run P w=.ok (.tuple #[z,.bool false]) w:=by
 unfold jY at hu;cases hi:P.info? A with
 |none=>rw[hi]at hz;cases hz
 |some i=>
  rw[hi]at hz;have hz':i.zero=some z:=hz;cases hq:P.underlying A with
  |none=>rw[hq]at hu;cases hu
  |some d=>
   rw[hq]at hu;cases d<;>first|(simp at hu;done)|simp[Θ,run_underlying hq,h,zeroValue,typeInfo,hi,hz']
end
theorem iU:jY prog 212=true:=by kernel_rfl
theorem lG:(prog.info? 212).bind (·.zero)=some (.pointer none):=by kernel_rfl
def qK (lo K:Nat)(L:List Int)(w:Ξ)(E:Env)(root t:Dt)(f:Nat)(v:Λ):Prop:=∃d,ct lo K L w E d v∧bQ root f d=t∧qi root d=true
theorem Mz {w0:Ξ}(fV:θ w0.heap.size w0 w){root:Dt}{rv:Λ}(Kq:ct lo K L w0 E root rv)(vQ:qi root root=true)(f:Nat)(d:Dt)(v:Λ)(hd:ct lo K L w0 E d v)(ha:qi root d=true)(hh:(bQ root f d).hd=true):Φ prog 78 #[v] w λe w'=>∃v',e=.returned v'∧w'=w∧ct lo K L w0 E (bQ root f d) v':=by
 generalize ht:bQ root f d=t at *;obtain⟨μ,hμ⟩:∃μ:Λ→Nat,∀x,(∃n,qK lo K L w0 E root t n x)→qK lo K L w0 E root t (μ x) x∧∀m,qK lo K L w0 E root t m x→μ x≤m:=by
  have hex:∀x,∃k,(∃n,qK lo K L w0 E root t n x)→qK lo K L w0 E root t k x∧∀m,qK lo K L w0 E root t m x→k≤m:=λx=>by
   by_cases e:∃n,qK lo K L w0 E root t n x
   ·obtain⟨n,h1⟩:=IM e;exact⟨n,λ_=>h1⟩
   ·exact⟨0,λh=>absurd h e⟩
  exact⟨λx=>Classical.choose (hex x),λx=>zaP (hex x)⟩
 have H0:Hid (∃n,qK lo K L w0 E root t n v):=⟨f,d,hd,ht,ha⟩;have HM:Hid _:=hμ;have HRT:Hid _:=Kq;have HAS:Hid _:=vQ;have HLO:Hid _:=fV;clear fV hμ Kq vQ hd ht ha d f;go_enter func78,ntmps78;go_wp2_with fail;go_loopw [0] (λsv wr=>wr=w∧Hid (∃n,qK lo K L w0 E root t n sv)) (λsv _=>μ sv)
 case atStart=>exact⟨rfl,H0.out⟩
 case round=>
  obtain⟨rfl,HX⟩:=hrel;obtain⟨⟨d,hd,hm,ha⟩,AV⟩:=HM.out _ HX.out;cases d with
  |cZ=>unfold ct at hd;exact hd.elim
  |br a l=>unfold ct at hd;exact hd.elim
  |put n x=>
   exfalso;cases hf:μ u0 with
   |zero=>rw[hf]at hm;have:(Dt.put n x).hd=true:=by rw[←hh,←hm];rfl
          simp[Dt.hd]at this
   |succ k=>
    rw[hf]at hm;unfold ct at hd;have:=AV k ⟨x,hd.2.2.2,hm,ha⟩;omega
  |ask m=>
   cases hf:μ u0 with
   |zero=>rw[hf]at hm;have:(Dt.ask m).hd=true:=by rw[←hh,←hm];rfl
          simp[Dt.hd]at this
   |succ k=>
    rw[hf]at hm;have ha':(aO m root).isSome=true:=ha;obtain⟨d1,IK⟩:=zcc.1 ha';obtain⟨v1,NA,Xh⟩:=ct.cE HRT.out IK
    have TC:bQ root k d1=t:=by have e:bQ root (k+1) (.ask m)=bQ root k ((aO m root).getD .nil):=rfl
                               rw[e,IK]at hm;exact hm
    have HON:Hid (qK lo K L w0 E root t k v1):=⟨d1,Xh,TC,kX HAS.out IK⟩;have hlt:=(HM.out v1 ⟨k,HON.out⟩).2 k HON.out;unfold ct at hd;obtain⟨-,rfl⟩:=hd;have hv2:=(HLO.out.block _ (zaj.1 NA).1).trans NA;have c0:wr.cell? ⟨E.cE m,0,none⟩=some v1:=by simp[Ξ.cell?,hv2]
    have Xi:(Θ (.iface 212 (.pointer (some ⟨E.cE m,0,none⟩))) 58 212 true).run prog wr=_:=dM wr iU;clear hm AV ha Xh TC NA hv2 ha' IK;unfold aC at *;go_wp2_with fail;exact⟨⟨trivial,⟨k,HON.out⟩⟩,by rw[hf];omega⟩
  |nil=>
   have HD:Hid (t=.nil):=by show _=_;rw[←hm];exact iv rfl _
   unfold ct at hd;subst hd;have Xi:(Θ (.iface 272 (.agg #[])) 58 212 true).run prog wr=_:=au wr iU lG (by decide);clear hm AV ha;go_wp2_with fail;go_ret;exact⟨_,rfl,rfl,by rw[HD.out];unfold ct;rfl⟩
  |sym s=>
   have HD:Hid (t=.sym s):=by show _=_;rw[←hm];exact iv rfl _
   unfold ct at hd;subst hd;have Xi:(Θ (.iface 168 (.agg #[.string ⟨⟨s⟩⟩])) 58 212 true).run prog wr=_:=au wr iU lG (by decide);clear hm AV ha;go_wp2_with fail;go_ret;exact⟨_,rfl,rfl,by rw[HD.out];unfold ct;rfl⟩
  |num a b=>
   have HD:Hid (t=.num a b):=by show _=_;rw[←hm];exact iv rfl _
   unfold ct at hd;subst hd;have Xi:(Θ (.iface 153 (.agg #[Γ Δ a,Γ Δ b])) 58 212 true).run prog wr=_:=au wr iU lG (by decide);clear hm AV ha;go_wp2_with fail;go_ret;exact⟨_,rfl,rfl,by rw[HD.out];unfold ct;rfl⟩
  |cD a=>
   have HD:Hid (t=.cD a):=by show _=_;rw[←hm];exact iv rfl _
   unfold ct at hd;subst hd;have Xi:(Θ (.iface 155 (.agg #[Γ Δ a])) 58 212 true).run prog wr=_:=au wr iU lG (by decide);clear hm AV ha;go_wp2_with fail;go_ret;exact⟨_,rfl,rfl,by rw[HD.out];unfold ct;rfl⟩
  |kB a=>
   have HD:Hid (t=.kB a):=by show _=_;rw[←hm];exact iv rfl _
   unfold ct at hd;subst hd;have Xi:(Θ (.iface 157 (.agg #[Γ Δ a])) 58 212 true).run prog wr=_:=au wr iU lG (by decide);clear hm AV ha;go_wp2_with fail;go_ret;exact⟨_,rfl,rfl,by rw[HD.out];unfold ct;rfl⟩
  |txt i s=>
   have HD:Hid (t=.txt i s):=by show _=_;rw[←hm];exact iv rfl _
   unfold ct at hd;have Mo:Hid _:=hd;obtain⟨-,-,rfl,-⟩:=hd;have Xi:(Θ (.iface 158 (.pointer (some ⟨E.α i,0,none⟩))) 58 212 true).run prog wr=_:=au wr iU lG (by decide);unfold aC at *;clear hm AV ha;go_wp2_with fail;go_ret;exact⟨_,rfl,rfl,by rw[HD.out];unfold ct;exact⟨Mo.out.1,Mo.out.2.1,rfl,Mo.out.2.2.2⟩⟩
  |pair i a b=>
   have HD:Hid (t=.pair i a b):=by show _=_;rw[←hm];exact iv rfl _
   unfold ct at hd;have Mo:Hid _:=hd;obtain⟨-,-,rfl,-⟩:=hd;have Xi:(Θ (.iface 150 (.pointer (some ⟨E.α i,0,none⟩))) 58 212 true).run prog wr=_:=au wr iU lG (by decide);unfold aC at *;clear hm AV ha;go_wp2_with fail;go_ret;exact⟨_,rfl,rfl,by rw[HD.out];unfold ct;exact⟨Mo.out.1,Mo.out.2.1,rfl,Mo.out.2.2.2⟩⟩
  |vec i l=>
   have HD:Hid (t=.vec i l):=by show _=_;rw[←hm];exact iv rfl _
   unfold ct at hd;have Mo:Hid _:=hd;obtain⟨-,-,rfl,-⟩:=hd;have Xi:(Θ (.iface 163 (.pointer (some ⟨E.α i,0,none⟩))) 58 212 true).run prog wr=_:=au wr iU lG (by decide);unfold aC at *;clear hm AV ha;go_wp2_with fail;go_ret;exact⟨_,rfl,rfl,by rw[HD.out];unfold ct;exact⟨Mo.out.1,Mo.out.2.1,rfl,Mo.out.2.2.2⟩⟩
end
structure gO (w0:Ξ) (K:Nat) (κ:Nat→HK) (E:Env) (met:List (Nat×Nat)):Prop where
 at_:∀p∈met,p.1<K∧rI w0 (κ p.1) (E.α p.1)
 nd:(met.map (·.1)).Nodup
section
variable {w0 w:Ξ}{G M K:Nat}{κ:Nat→HK}{E:Env}{g:fP}{bN:List Λ}{nv:Λ}
theorem rI.low {h:HK}{b:Nat}(x:rI w0 h b)(hb:θ w0.heap.size w0 w):rI w h b:=by
 obtain⟨c,hc⟩:=x;exact⟨c,(hb.block b (zaj.1 hc).1).trans hc⟩
theorem Grown.refl (h:eG w0 w G M κ E g bN nv):Grown w0 w w G M κ E bN nv g:=⟨bN,nv,h,(Kp.refl G M w).a _,.inl rfl,λsv hs _ hb=> .inl ⟨sv,hs,hb⟩⟩
theorem eG.look (h:eG w0 w G M κ E g bN nv)(hm:gO w0 K κ E g.met)(yK:∀i j,i<K→j<K→E.α i=E.α j→i=j){i:Nat}(hi:i<K)(hk:rI w0 (κ i) (E.α i)):(Instr.lookup 98 (.map (some M)) (kU (κ i) (E.α i)) true).run prog w=.ok (.tuple #[Γ Δ (((g.met.lookup i).getD 0:Nat):Int),.bool (g.met.lookup i).isSome]) w:=
 Fw h.map i (hk.low h.low) (λp hp=>(hm.at_ p hp).2.low h.low) (λp hp e=>yK i p.1 hi (hm.at_ p hp).1 e) hm.nd
theorem eG.met (h:eG w0 w G M κ E g bN nv){i k:Nat}{o:Obj}(hm:nQ { w with heap:=w.heap.setIfInBounds M o } M (Fv κ E ((i,k)::g.met))):eG w0 { w with heap:=w.heap.setIfInBounds M o } G M κ E { g with met:=(i,k)::g.met } bN nv∧jO G M nv.ownBlock w { w with heap:=w.heap.setIfInBounds M o }:=by
 have ho:∀b,b≠M→(w.heap.setIfInBounds M o)[b]?=w.heap[b]?:=λb hb=>zaA (λe=>hb e.symm);obtain⟨es,c,hM,-⟩:=h.map;refine⟨⟨h.gm,h.glo,h.mlo,⟨h.low.os,h.low.tape,h.low.output,?_,λb hb=>?_⟩,(ho G h.gm).trans h.blk,?_,hm,h.len,λj x sv hx rM=>?_⟩,⟨rfl,rfl,rfl,by simp,λb _ _ b3 _=>ho b b3⟩⟩
 ·have:=h.low.size;simpa using this
 ·have:=h.mlo;exact(ho b (by omega)).trans (h.low.block b hb)
 ·refine⟨h.row.1,h.row.2.imp id ?_⟩;rintro ⟨b,cp,cur,q1,q2,q3,q4⟩;exact⟨b,cp,cur,q1,q2,(ho b (λe=>by rw[e,hM]at q3;cases q3)).trans q3,q4⟩
 ·rcases h.subs j x sv hx rM with q|⟨b,q1,q2,q3⟩
  ·exact .inl q
  ·exact .inr ⟨b,q1,q2,(ho b (λe=>by rw[e,hM]at q3;cases q3)).trans q3⟩
theorem Grown.met {w1:Ξ}{g1:fP}(h:Grown w0 w w1 G M κ E bN nv g1){i k:Nat}{o:Obj}(hm:nQ { w1 with heap:=w1.heap.setIfInBounds M o } M (Fv κ E ((i,k)::g1.met))):Grown w0 w { w1 with heap:=w1.heap.setIfInBounds M o } G M κ E bN nv { g1 with met:=(i,k)::g1.met }:=by
 obtain⟨yJ,Uw,h1,h2,h3,h4⟩:=h;obtain⟨k1,k2⟩:=h1.met hm;exact⟨yJ,Uw,k1,h2.put k2 h3,h3,h4⟩
theorem P6 (h:eG w0 w G M κ E g bN nv)(hm:gO w0 K κ E g.met)(yK:∀i j,i<K→j<K→E.α i=E.α j→i=j){i:Nat}{s:List UInt8}(hi:i<K)(hk:κ i=.txt)(hx:w0.heap[E.α i]?=some (.cells #[.string ⟨⟨s⟩⟩] 218))(hlen:g.nodes.length+1≤1000000):Φ prog 81 #[aC G,aC (E.α i)] w λe w'=>∃k g',(match g.met.lookup i with|some k=>some (k,g)|none=>some (g.nodes.length,⟨g.nodes++[⟨3,s,0,0,[]⟩],(i,g.nodes.length)::g.met⟩))=some (k,g')∧e=.returned (Γ Δ k)∧Grown w0 w w' G M κ E bN nv g':=by
 have hat:rI w0 (κ i) (E.α i):=by rw[hk];exact⟨_,hx⟩
 have cU:=h.look hm yK hi hat
 have hG:G<w.heap.size:=(zaj.1 h.blk).1;obtain⟨g0,g1⟩:w.cell? ⟨G,0,none⟩=some nv∧w.cell? ⟨G,1,none⟩=some (.map (some M)):=by
  constructor<;>simp[Ξ.cell?,h.blk]
 have hx1:=(h.low.block (E.α i) (zaj.1 hx).1).trans hx;have x0:w.cell? ⟨E.α i,0,none⟩=some (.string ⟨⟨s⟩⟩):=by simp[Ξ.cell?,hx1]
 cases hq:g.met.lookup i with
 |some k=>
  rw[hq,hk]at cU;simp only[zbg,Option.isSome_some]at cU;have HG:Hid _:=Grown.refl h;clear h hm hat hx hx1;unfold kU aC at cU;simp only[HK.p]at cU;unfold aC;go_enter func81,ntmps81;go_wp2_with fail;go_ret;exact⟨k,g,rfl,rfl,HG.out⟩
 |none=>
  rw[hq,hk]at cU;simp only[zbH,Option.isSome_none]at cU;have HC:Hid _:=kW h ⟨3,s,0,0,[]⟩ rfl hlen;have HM:Hid _:=hm;have Dh:Hid _:=hat
  have HI:Hid _:=yK;clear h hm hat hx hx1 yK;unfold kU aC at cU;simp only[HK.p]at cU;unfold aC kt at HC;simp only at HC;unfold aC;go_enter func81,ntmps81;go_wp2_with fail;refine zai HC.out ?_;rintro e w1 ⟨rfl,hgr⟩;obtain⟨MA,Xj,h1,-,-,-⟩:=id hgr;have P7:(g.add ⟨3,s,0,0,[]⟩).met=g.met:=rfl;obtain⟨o,hput,hmap⟩:=yG h1.map i g.nodes.length (rI.low Dh.out h1.low) (λp hp=>rI.low (HM.out.at_ p hp).2 h1.low) (λp hp e=>HI.out i p.1 hi (HM.out.at_ p hp).1 e) HM.out.nd hq;have G3:Hid _:=Grown.met hgr hmap;obtain⟨y0,y1⟩:w1.cell? ⟨G,0,none⟩=some Xj∧w1.cell? ⟨G,1,none⟩=some (.map (some M)):=by
   constructor<;>simp[Ξ.cell?,h1.blk]
  clear hgr h1 hmap HC P7;rw[hk]at hput;unfold kU aC at hput;simp only[HK.p]at hput;go_wp2_with fail;go_ret;exact⟨g.nodes.length,_,rfl,rfl,G3.out⟩
end
end Go.Proofs.YtlhimdjkkiflhaaGreatDoor
namespace Go.Loop
open Go.Proofs.Tryz
def Dt.mX:Dt→Nat
 |.br _ l=>l.mX+1
 |_=>0
def bH (root:Dt):Dt→Bool
 |.ask m=>(aO m root).isSome&&(bQ root 200000 (.ask m)).hd
 |.put n d=>(bQ root 200000 (.put n d)).hd&&bH root d
 |.pair _ a b=>bH root a&&bH root b
 |.vec _ l=>decide (l.mX≤1000)&&bH root l
 |.br a l=>bH root a&&bH root l
 |.sym s=>decide (s.length≤1000000)
 |_=>true
theorem iw {root:Dt}:∀{d:Dt},bH root d=true→qi root d=true
 |.ask m,h=>by simp only[bH,zae]at h;exact h.1
 |.put n d,h=>by simp only[bH,zae]at h;exact iw (d:=d) h.2
 |.pair _ a b,h=>by simp only[bH,qi,zae]at h ⊢;exact⟨iw h.1,iw h.2⟩
 |.vec _ l,h=>by simp only[bH,zae]at h;exact iw (d:=l) h.2
 |.br a l,h=>by simp only[bH,qi,zae]at h ⊢;exact⟨iw h.1,iw h.2⟩
 |.nil,_=>rfl
 |.sym _,_=>rfl
 |.num _ _,_=>rfl
 |.cD _,_=>rfl
 |.kB _,_=>rfl
 |.txt _ _,_=>rfl
 |.cZ,_=>rfl
theorem jz {root:Dt}{m:Int}:∀{r d:Dt},bH root r=true→aO m r=some d→bH root d=true
 |.put n x,d,h,hl=>by
  simp only[bH,zae]at h;unfold aO at hl;split at hl
  ·cases hl;exact h.2
  ·exact jz (r:=x) h.2 hl
 |.pair _ a b,d,h,hl=>by
  simp only[bH,zae]at h;unfold aO at hl;cases hq:aO m a with
  |some x=>rw[hq]at hl;cases hl;exact jz h.1 hq
  |none=>rw[hq]at hl;exact jz h.2 hl
 |.vec _ l,d,h,hl=>by
  simp only[bH,zae]at h;unfold aO at hl;exact jz (r:=l) h.2 hl
 |.br a l,d,h,hl=>by
  simp only[bH,zae]at h;unfold aO at hl;cases hq:aO m a with
  |some x=>rw[hq]at hl;cases hl;exact jz h.1 hq
  |none=>rw[hq]at hl;exact jz h.2 hl
 |.nil,d,h,hl=>by simp[aO]at hl
 |.sym _,d,h,hl=>by simp[aO]at hl
 |.num _ _,d,h,hl=>by simp[aO]at hl
 |.cD _,d,h,hl=>by simp[aO]at hl
 |.kB _,d,h,hl=>by simp[aO]at hl
 |.txt _ _,d,h,hl=>by simp[aO]at hl
 |.cZ,d,h,hl=>by simp[aO]at hl
 |.ask _,d,h,hl=>by simp[aO]at hl
theorem oT {root:Dt}(hr:bH root root=true):∀(f:Nat) (d:Dt),bH root d=true→bH root (bQ root f d)=true
 |0,d,h=>h
 |f+1,.put n x,h=>by
  simp only[bH,zae]at h;exact oT hr f x h.2
 |f+1,.ask m,h=>by
  simp only[bH,zae]at h;obtain⟨d1,IK⟩:=zcc.1 h.1;show bH root (bQ root f ((aO m root).getD .nil))=true;rw[IK];exact oT hr f d1 (jz hr IK)
 |f+1,.nil,h=>h
 |f+1,.sym _,h=>h
 |f+1,.num _ _,h=>h
 |f+1,.cD _,h=>h
 |f+1,.kB _,h=>h
 |f+1,.txt _ _,h=>h
 |f+1,.pair _ _ _,h=>h
 |f+1,.vec _ _,h=>h
 |f+1,.cZ,h=>h
 |f+1,.br _ _,h=>h
theorem my (root:Dt):∀n,(∀d g k g',ie root n d g=some (k,g')→g.nodes.length≤g'.nodes.length)∧∀l acc g ks g',ahF root n l acc g=some (ks,g')→g.nodes.length≤g'.nodes.length
 |0=>⟨λd g k g' h=>by simp[ie]at h,λl acc g ks g' h=>by simp[ahF]at h⟩
 |n+1=>by
  have ih:=my root n;refine⟨λd g k g' h=>?_,λl acc g ks g' h=>?_⟩
  ·unfold ie at h;split at h
   ·split at h
    ·cases h;exact zac _
    ·obtain⟨y,hy,e⟩:=zas.1 h;cases e;have:=ih.2 _ _ _ _ _ hy;simp[bE]at this ⊢;omega
   ·split at h
    ·cases h;exact zac _
    ·obtain⟨y,hy,e⟩:=zas.1 h;cases e;have:=ih.2 _ _ _ _ _ hy;simp[bE]at this ⊢;omega
   ·split at h
    ·cases h;exact zac _
    ·cases h;simp
   all_goals (cases h;simp[fP.add])
  ·unfold ahF at h;split at h
   ·cases h;exact zac _
   ·obtain⟨x,hx,e⟩:=zaO.1 h;have:=ih.1 _ _ _ _ hx;have:=ih.2 _ _ _ _ _ e;omega
   ·cases h
end Go.Loop
namespace Go.Proofs.YtlhimdjkkiflhaaGreatDoor
open Go.Proofs.Tryz
open Go.RowKit Go.Loop
variable {i j n lo:Nat}{acc:List Nat}{L:List Int}{root:Dt}
theorem FJ:(prog.info? 3).map (λi=>(i.zero,i.size,i.bytes))=some (some (Γ Δ 0),1,8):=by kernel_rfl
structure mY (w0:Ξ) (lo K:Nat) (L:List Int) (κ:Nat→HK) (E:Env) (root:Dt):Prop where
 dat:∃rv,ct lo K L w0 E root rv
 good:bH root root=true
 inj:∀i j,i<K→j<K→E.α i=E.α j→i=j
 kind:∀i h,i<K→rI w0 h (E.α i)→κ i=h
section
variable (w0:Ξ)(lo K:Nat)(L:List Int)(κ:Nat→HK)(E:Env)(root:Dt)(G M:Nat)
def yL (n:Nat):Prop:=∀d v w g bN nv k g',ct lo K L w0 E d v→bH root d=true→eG w0 w G M κ E g bN nv→gO w0 K κ E g.met→ie root n d g=some (k,g')→g'.nodes.length≤999999→Φ prog 48 #[aC G,v] w λe w'=>e=.returned (Γ Δ (k:Nat))∧Grown w0 w w' G M κ E bN nv g'∧gO w0 K κ E g'.met
end
theorem Kr:∀(l:List eO) (bN:List Λ) (i:Nat) (x:eO) (sv:Λ),l[i]?=some x→bN[i]?=some sv→(tL l bN)[i*5+4]?=some sv
 |[],_,i,x,sv,h,_=>by simp at h
 |_::_,[],i,x,sv,_,h=>by simp at h
 |y::l,s::bN,0,x,sv,h,h2=>by
  simp at h h2;subst h h2;simp[tL,oQ]
 |y::l,s::bN,i+1,x,sv,h,h2=>by
  have:=Kr l bN i x sv (by simpa using h) (by simpa using h2);rw[tL,zbv (by simp[oQ];omega)];have e:(i+1)*5+4-(oQ y s).length=i*5+4:=by simp[oQ];omega
  rw[e];exact this
theorem Ks:∀(l:List eO) (bN:List Λ) (i:Nat) (ks:List Nat) (sv:Λ),i<l.length→bN.length=l.length→tL (bE l i ks) (bN.set i sv)=(tL l bN).set (i*5+4) sv
 |[],_,i,ks,sv,h,_=>by simp at h
 |_::_,[],i,ks,sv,_,h=>by simp at h
 |y::l,s::bN,0,ks,sv,_,_=>by
  simp[bE,tL,oQ]
 |y::l,s::bN,i+1,ks,sv,h,h2=>by
  have:=Ks l bN i ks sv (by simpa using h) (by simpa using h2);have e:bE (y::l) (i+1) ks=y::bE l i ks:=rfl;rw[e,List.set_cons_succ,tL,this,tL,List.set_append_right _ _ (by simp[oQ];omega)];have e:(i+1)*5+4-(oQ y s).length=i*5+4:=by simp[oQ];omega
  rw[e]
theorem IP {l:List eO}{ks:List Nat}{x:eO}(h:(bE l i ks)[j]?=some x):(j=i∧x.subs=ks)∨(j≠i∧l[j]?=some x):=by
 unfold bE at h;rw[zcE]at h;by_cases e:i=j
 ·subst e;simp at h;obtain⟨y,-,rfl⟩:=h;exact .inl ⟨rfl,rfl⟩
 ·simp[e]at h;exact .inr ⟨λq=>e q.symm,h⟩
section
variable {w0 w:Ξ}{G M K:Nat}{κ:Nat→HK}{E:Env}{g:fP}{bN:List Λ}{nv:Λ}
theorem eG.sub (h:eG w0 w G M κ E g bN nv)(hi:i<g.nodes.length){ks:List Nat}{B:Nat}(hB:w0.heap.size≤B)(hblk:w.heap[B]?=some (.cells (ks.map λk:Nat=>Λ.int .i64 (k:Int)).toArray 3)):∃nb cap,nv=.slice (some ⟨nb,0,none⟩) g.nodes.length cap∧(∃sv,w.cell? ⟨nb,i*5+4,none⟩=some sv)∧w.frozen? ⟨nb,i*5+4,none⟩=false∧eG w0 (w.setCell ⟨nb,i*5+4,none⟩ (.slice (some ⟨B,0,none⟩) ks.length ks.length)) G M κ E { g with nodes:=bE g.nodes i ks } (bN.set i (.slice (some ⟨B,0,none⟩) ks.length ks.length)) nv∧jO G M nv.ownBlock w (w.setCell ⟨nb,i*5+4,none⟩ (.slice (some ⟨B,0,none⟩) ks.length ks.length)):=by
 obtain⟨es,c,hm,YR⟩:=h.map;rcases h.row.2 with⟨_,h0⟩|⟨nb,cap,cur,rfl,q1,q2,q3,q4,q5,q6⟩
 ·omega
 have rM:i<bN.length:=by rw[h.len];exact hi
 have hcell:w.cell? ⟨nb,i*5+4,none⟩=some bN[i]:=by
  have:=h.row.cells (g:=nb) rfl (i*5+4) _ (Kr _ _ i _ _ (zat hi) (zat rM));simpa[π]using this
 have ho:∀b,b≠nb→(w.setCell ⟨nb,i*5+4,none⟩ (.slice (some ⟨B,0,none⟩) ks.length ks.length)).heap[b]?=w.heap[b]?:=λb hb=>zax _ _ _ _ hb;have nG:G≠nb:=λe=>by rw[←e,h.blk]at q2;simp at q2
 have nM:M≠nb:=λe=>by rw[←e,hm]at q2;simp at q2
 have adK:(w.setCell ⟨nb,i*5+4,none⟩ (.slice (some ⟨B,0,none⟩) ks.length ks.length)).heap[nb]?=some (.cells (cur.setIfInBounds (i*5+4) (.slice (some ⟨B,0,none⟩) ks.length ks.length)) 45):=eE q2 _ _;refine⟨nb,cap,rfl,⟨_,hcell⟩,by simp[Ξ.frozen?,q2],⟨h.gm,h.glo,h.mlo,⟨h.low.os,h.low.tape,h.low.output,by have:=h.low.size;simpa using this,λb hb=>(ho b (by omega)).trans (h.low.block b hb)⟩,(ho G nG).trans h.blk,?_,⟨es,c,(ho M nM).trans hm,YR⟩,by simp[bE,h.len],λj x sv hx Uy=>?_⟩,⟨rfl,rfl,rfl,by simp,λb _ _ _ b4=>ho b (λe=>b4 (by rw[e];rfl))⟩⟩
 ·have e1:(bE g.nodes i ks).length=g.nodes.length:=by simp[bE]
  show Ξ.ownsRow _ _ _ _ _ (bE g.nodes i ks).length (tL (bE g.nodes i ks) _);rw[Ks _ _ _ _ _ hi h.len,e1];refine⟨by rw[List.length_set];exact h.row.1,.inr ⟨nb,cap,_,rfl,q1,adK,q3,q4,by simpa using q5,?_⟩⟩;rw[Array.toList_setIfInBounds,List.take_set,q6]
 ·rcases IP hx with⟨rfl,hk⟩|⟨hne,tJ⟩
  ·rw[List.getElem?_set_self (by rw[h.len];exact hi)]at Uy;cases Uy;right;refine⟨B,by rw[hk],hB,?_⟩;rw[hk];exact(ho B (λe=>by rw[e,q2]at hblk;simp at hblk)).trans hblk
  ·rw[List.getElem?_set_ne (λe=>hne e.symm)]at Uy;rcases h.subs j x sv tJ Uy with q|⟨b,p1,p2,p3⟩
   ·exact .inl q
   ·exact .inr ⟨b,p1,p2,(ho b (λe=>by rw[e,q2]at p3;simp at p3)).trans p3⟩
end
def iV (acc:List Nat)(n:Nat):Array Λ:=(acc.map (λk:Nat=>Λ.int .i64 (k:Int))++List.replicate (n-acc.length) (Λ.int .i64 0)).toArray
section
variable {w0 w:Ξ}{G M K:Nat}{κ:Nat→HK}{E:Env}{g:fP}{bN:List Λ}{nv:Λ}
theorem eG.other (h:eG w0 w G M κ E g bN nv){B:Nat}{c:Array Λ}(hB:w.heap[B]?=some (.cells c 3))(AJ:w0.heap.size≤B)(hn:∀sv∈bN,sv.ownBlock≠some B)(j:Nat)(v:Λ):eG w0 (w.setCell ⟨B,j,none⟩ v) G M κ E g bN nv:=by
 have ho:∀b,b≠B→(w.setCell ⟨B,j,none⟩ v).heap[b]?=w.heap[b]?:=λb hb=>zax _ _ _ _ hb;obtain⟨es,cl,hm,YR⟩:=h.map;refine⟨h.gm,h.glo,h.mlo,⟨h.low.os,h.low.tape,h.low.output,by have:=h.low.size;simpa using this,λb hb=>(ho b (by omega)).trans (h.low.block b hb)⟩,(ho G (λe=>by rw[←e,h.blk]at hB;simp at hB)).trans h.blk,?_,⟨es,cl,(ho M (λe=>by rw[←e,hm]at hB;simp at hB)).trans hm,YR⟩,h.len,λi x sv hx rM=>?_⟩
 ·refine⟨h.row.1,h.row.2.imp id ?_⟩;rintro ⟨b,cp,cur,q1,q2,q3,q4⟩;exact⟨b,cp,cur,q1,q2,(ho b (λe=>by rw[←e,q3]at hB;simp at hB)).trans q3,q4⟩
 ·rcases h.subs i x sv hx rM with q|⟨b,q1,q2,q3⟩
  ·exact .inl q
  ·exact .inr ⟨b,q1,q2,(ho b (λe=>hn sv (zbr rM) (by rw[q1,←e];rfl))).trans q3⟩
theorem IQ (h:acc.length<n)(k:Nat):(iV acc n).setIfInBounds acc.length (Γ Δ (k:Int))=iV (acc++[k]) n:=by
 unfold iV;obtain⟨r,hr⟩:∃r,n-acc.length=r+1:=⟨n-acc.length-1,by omega⟩;have qy:n-(acc++[k]).length=r:=by simp;omega
 rw[hr,qy,List.replicate_succ];apply Array.ext';simp
theorem FK (h:acc.length=n):iV acc n=(acc.map λk:Nat=>Λ.int .i64 (k:Int)).toArray:=by
 unfold iV;rw[h,Nat.sub_self];simp
theorem IU (h:j<n)(ha:acc.length≤n):∃v,(iV acc n)[j]?=some v:=by
 have:j<(iV acc n).size:=by simp[iV];omega
 exact⟨_,zaL this⟩
theorem gz {α:Type}{l:List α}{x:α}{r:List α}(h:l.drop j=x::r):l[j]?=some x∧l.drop (j+1)=r:=by
 constructor
 ·rw[←List.head?_drop,h];rfl
 ·rw[←List.tail_drop,h];rfl
theorem FL (ih:∀m,m≤n→yL w0 lo K L κ E root G M m)(wb w:Ξ)(MB:List Λ)(SX:Λ)(at_ B:Nat)(hv:Λ)(vs:List Λ)(l:Dt)(g1 g2:fP)(MA:List Λ)(Xj:Λ)(ks:List Nat)
 (cO:ahF root n l [] g1=some (ks,g2))(hlen:g2.nodes.length≤999999)(hat:at_<g1.nodes.length)(SI:vs.length≤1000)(hD:df lo K L w0 E l vs)(dh:bH root l=true)(hG:eG w0 w G M κ E g1 MA Xj)(hM:gO w0 K κ E g1.met)(hK:jO G M SX.ownBlock wb w)
 (hnv:Xj.ownBlock=SX.ownBlock∨∃b,Xj.ownBlock=some b∧wb.heap.size≤b)(hns:P5 wb MB MA)(hB:w.heap[B]?=some (.cells (iV [] vs.length) 3))(Uj:wb.heap.size≤B)(hB0:w0.heap.size≤B)(hBn:∀sv∈MA,sv.ownBlock≠some B)(hrow:w.ownsRow 0 58 1 hv vs.length vs)
 (x1 x2 x4 x5 x6 x7 x8 x9 x10 x13 x14 x15 x16 x17 x18 x19 x20 x21 x22 x23 x24 x25 x26 x27 x28 x29 x30 x31 x32 x33 x34 x35 x36 x37 x38 x39 x40 x41 x42 x43 x44 x45 x46 x47 x48 x49 x50 x51 x52 x53 x54 x55 x56 x57 x58 x59 x60 x61:Λ):
 (bM (bM (bM (bM (bM (f80.body.getD .skip)))))).wp prog (bodyPost prog f80 λe w'=>e=.returned (Γ Δ (at_:Nat))∧Grown w0 wb w' G M κ E MB SX { g2 with nodes:=bE g2.nodes at_ ks }∧gO w0 K κ E g2.met) ⟨#[.pointer (some ⟨G,0,none⟩),x1,x2,hv,x4,x5,x6,x7,x8,x9,x10,Γ Δ (at_:Nat),.slice (some ⟨B,0,none⟩) vs.length vs.length,x13,x14,x15,x16,x17,x18,x19,x20,x21,x22,x23,x24,x25,x26,x27,x28,x29,x30,x31,x32,x33,x34,x35,x36,x37,x38,x39,x40,x41,x42,x43,x44,x45,x46,x47,x48,x49,x50,x51,x52,x53,x54,x55,x56,x57,x58,x59,x60,x61],[]⟩ w:=by
 obtain⟨ha,hc,rfl⟩:=bD hrow;have HI:Hid _:=ih;have H0:Hid (∃(m:Nat) (l':Dt) (acc:List Nat) (gj:fP) (uy:List Λ) (Kt:Λ),(Γ Δ 0:Λ)=Γ Δ (acc.length:Nat)∧acc.length≤vs.length∧m≤n∧at_<gj.nodes.length∧Hid (ahF root m l' acc gj=some (ks,g2))∧Hid (df lo K L w0 E l' (vs.drop acc.length))∧Hid (bH root l'=true)∧Hid (eG w0 w G M κ E gj uy Kt)∧Hid (gO w0 K κ E gj.met)∧Hid (jO G M SX.ownBlock wb w)∧Hid (Kt.ownBlock=SX.ownBlock∨∃b,Kt.ownBlock=some b∧wb.heap.size≤b)∧Hid (P5 wb MB uy)∧Hid (w.heap[B]?=some (.cells (iV acc vs.length) 3))∧Hid (∀sv∈uy,sv.ownBlock≠some B)∧Hid (w.ownsRow 0 58 1 (.slice ha vs.length hc) vs.length vs)):=
  ⟨n,l,[],g1,MA,Xj,rfl,zaq _,zac _,hat,cO,hD,dh,hG,hM,hK,hnv,hns,hB,hBn,hrow⟩
 clear ih cO hat hD dh hG hM hK hnv hns hB hBn hrow;dsimp only[f80,bM,Option.getD];go_wp2_with fail;go_loopw [41] (λsv wr=>∃(m:Nat) (l':Dt) (acc:List Nat) (gj:fP) (uy:List Λ) (Kt:Λ),sv=Γ Δ (acc.length:Nat)∧acc.length≤vs.length∧m≤n∧at_<gj.nodes.length∧Hid (ahF root m l' acc gj=some (ks,g2))∧Hid (df lo K L w0 E l' (vs.drop acc.length))∧Hid (bH root l'=true)∧Hid (eG w0 wr G M κ E gj uy Kt)∧Hid (gO w0 K κ E gj.met)∧Hid (jO G M SX.ownBlock wb wr)∧Hid (Kt.ownBlock=SX.ownBlock∨∃b,Kt.ownBlock=some b∧wb.heap.size≤b)∧Hid (P5 wb MB uy)∧Hid (wr.heap[B]?=some (.cells (iV acc vs.length) 3))∧Hid (∀sv∈uy,sv.ownBlock≠some B)∧Hid (wr.ownsRow 0 58 1 (.slice ha vs.length hc) vs.length vs)) (λsv _=>vs.length-(intOf sv).toNat)
 case atStart=>exact H0.out
 case round=>
  obtain⟨m,l',acc,gj,uy,Kt,rfl,adL,hm,hat,HN,HD,SY,HG,HM,HK,Xk,HNS,HB,HBN,ku⟩:=hrel;have hBl:B<wr.heap.size:=(zaj.1 HB.out).1;have hnG:B≠G:=λe=>by have h1:=HB.out;rw[e,HG.out.blk]at h1;simp at h1
  have hnM:B≠M:=λe=>by obtain⟨es,c,h2,-⟩:=HG.out.map;have h1:=HB.out;rw[e,h2]at h1;simp at h1
  have hnN:=eG.ux HG.out B _ HB.out (λcur e=>by simp at e);by_cases hlt:acc.length<vs.length
  ·obtain⟨x,r,Aw⟩:∃x r,vs.drop acc.length=x::r:=by
    cases hq:vs.drop acc.length with
    |nil=>simp at hq;omega
    |cons x r=>exact⟨x,r,rfl⟩
   obtain⟨hx,hr⟩:=gz Aw;have cK:=HD.out;rw[Aw]at cK;obtain⟨a,l2,rfl,hda,hdl⟩:∃a l2,l'=.br a l2∧ct lo K L w0 E a x∧df lo K L w0 E l2 r:=by
    cases l'<;>unfold df at cK<;>first|exact cK.elim|(cases cK;done)|skip
    rename_i a l2;obtain⟨v,r',e,h1,h2⟩:=cK;cases e;exact⟨a,l2,rfl,h1,h2⟩
   have hgd:=SY.out;simp only[bH,zae]at hgd;obtain⟨m',rfl⟩:∃m',m=m'+1:=by
    cases m with
    |zero=>have h1:=HN.out;simp[ahF]at h1
    |succ m'=>exact⟨m',rfl⟩
   have hN:=HN.out;unfold ahF at hN;obtain⟨⟨k1,g'⟩,hN1,hN2⟩:=zaO.1 hN;have SH:=(my root m').2 _ _ _ _ _ hN2;have afu:=(my root m').1 _ _ _ _ hN1;have HC:Hid _:=HI.out m' (by omega) a x wr gj uy Kt k1 g' hda hgd.1 HG.out HM.out hN1 (by simp at SH;omega);obtain⟨hb,cap,cur,hhv,q1,q2,q3⟩:∃hb cap cur,Λ.slice ha vs.length hc=.slice (some ⟨hb,0,none⟩) vs.length cap∧0≤hb∧wr.heap[hb]?=some (.cells cur 58)∧True:=by
    rcases ku.out.2 with⟨e,h0⟩|⟨hb,cap,cur,e,p1,p2,_⟩
    ·omega
    ·exact⟨hb,cap,cur,e,p1,p2,trivial⟩
   obtain rfl:ha=some ⟨hb,0,none⟩:=by cases hhv;rfl
   have cx:wr.cell? ⟨hb,acc.length,none⟩=some x:=by
    rw[Ξ.ownsRow.cellAt ku.out acc.length (by omega)];exact hx
   have hbl:hb<wr.heap.size:=(zaj.1 q2).1;have hbG:hb≠G:=λe=>by rw[e,HG.out.blk]at q2;simp at q2
   have hbM:hb≠M:=λe=>by obtain⟨es,c,h2,-⟩:=HG.out.map;rw[e,h2]at q2;simp at q2
   have hbN:=eG.ux HG.out hb _ q2 (λcur e=>by simp at e);have YU:(acc.length:Int)<(vs.length:Int):=by omega
   have H2:Hid _:=hN2;have HDL:Hid _:=hdl;have HR:Hid _:=hr;have HGL:Hid _:=hgd.2;have HQ2:Hid _:=q2;clear hN hN1 hN2 hda hdl cK hgd hhv q1 q2 q3 Aw hx hr;unfold aC at HC;go_wp2_with fail;refine zai HC.out ?_;clear HC;rintro e w2 ⟨rfl,⟨yJ,Uw,hG2,hK2,aba,YV⟩,DN⟩;have hs2:=hK2.size;have hB2:=(hK2.block B hBl hnG hnM hnN).trans HB.out;have hb2:=(hK2.block hb hbl hbG hbM hbN).trans HQ2.out;have YW:∀sv∈yJ,sv.ownBlock≠some B:=λsv rM e=>by
    rcases YV sv rM B e with⟨sv0,h1,h2⟩|h1
    ·exact HBN.out sv0 h1 h2
    ·omega
   obtain⟨v0,hv0⟩:=IU (acc:=acc) hlt adL;have cB:w2.cell? ⟨B,acc.length,none⟩=some v0:=by simp[Ξ.cell?,hB2,hv0]
   have fB:w2.frozen? ⟨B,acc.length,none⟩=false:=by simp[Ξ.frozen?,hB2]
   have YS:Hid (∃(m:Nat) (l':Dt) (P9:List Nat) (gj:fP) (uy:List Λ) (Kt:Λ),(Λ.int .i64 ((acc.length:Int)+1))=Γ Δ (P9.length:Nat)∧P9.length≤vs.length∧m≤n∧at_<gj.nodes.length∧Hid (ahF root m l' P9 gj=some (ks,g2))∧Hid (df lo K L w0 E l' (vs.drop P9.length))∧Hid (bH root l'=true)∧Hid (eG w0 (w2.setCell ⟨B,acc.length,none⟩ (Γ Δ k1)) G M κ E gj uy Kt)∧Hid (gO w0 K κ E gj.met)∧Hid (jO G M SX.ownBlock wb (w2.setCell ⟨B,acc.length,none⟩ (Γ Δ k1)))∧Hid (Kt.ownBlock=SX.ownBlock∨∃b,Kt.ownBlock=some b∧wb.heap.size≤b)∧Hid (P5 wb MB uy)∧Hid ((w2.setCell ⟨B,acc.length,none⟩ (Γ Δ k1)).heap[B]?=some (.cells (iV P9 vs.length) 3))∧Hid (∀sv∈uy,sv.ownBlock≠some B)∧Hid ((w2.setCell ⟨B,acc.length,none⟩ (Γ Δ k1)).ownsRow 0 58 1 (.slice (some ⟨hb,0,none⟩) vs.length hc) vs.length vs)):=by
    have hws:=HK.out.size;refine⟨m',l2,acc++[k1],g',yJ,Uw,by simp,by simp;omega,by omega,by omega,H2.out,?_,HGL.out,eG.other hG2 hB2 hB0 YW _ _,DN,?_,?_,λsv rM b hb'=>?_,?_,YW,?_⟩
    ·show df lo K L w0 E l2 (vs.drop (acc++[k1]).length);rw[zaR];show df lo K L w0 E l2 (vs.drop (acc.length+1));rw[HR.out];exact HDL.out
    ·exact jO.above (jO.put HK.out hK2 Xk.out) Uj _ _
    ·rcases aba with e|⟨b,e,NC⟩
     ·rcases Xk.out with e2|⟨b,e2,NC⟩
      ·exact .inl (e.trans e2)
      ·exact .inr ⟨b,e.trans e2,NC⟩
     ·exact .inr ⟨b,e,by omega⟩
    ·rcases YV sv rM b hb' with⟨sv0,h1,h2⟩|h1
     ·exact HNS.out sv0 h1 b h2
     ·exact .inr (by omega)
    ·show _=_;rw[←IQ hlt];exact eE hB2 _ _
    ·have hrow:=ku.out;refine⟨hrow.1,hrow.2.imp id ?_⟩;rintro ⟨b,cp,cu,p1,p2,p3,p4⟩;have eb:b=hb:=by cases p1;rfl
     subst eb;have hne:b≠B:=λe=>by rw[e,hB2]at hb2;simp at hb2
     exact⟨b,cp,cu,p1,p2,(zax _ _ _ _ hne).trans ((hK2.block b hbl hbG hbM hbN).trans p3),p4⟩
   clear hG2 hK2 aba YV DN hB2 hb2 YW hv0 HN HD SY HG HM HK Xk HNS HB HBN ku H2 HDL HR HGL HQ2;go_wp2_with fail;exact⟨YS.out,by simp[intOf];omega⟩
  ·have he:acc.length=vs.length:=by omega
   have jB:¬((acc.length:Int)<(vs.length:Int)):=by omega
   obtain⟨rfl,hks,hg2⟩:l'=.cZ∧ks=acc∧g2=gj:=by
    have cK:=HD.out;rw[he,List.drop_length]at cK;have hl:l'=.cZ:=by
     cases l'<;>unfold df at cK<;>first|rfl|exact cK.elim|skip
     obtain⟨v,r',e,-⟩:=cK;cases e
    subst hl;have hN:=HN.out;cases m with
    |zero=>simp[ahF]at hN
    |succ m'=>
     unfold ahF at hN;cases hN;exact⟨rfl,rfl,rfl⟩
   have TR:=HB.out;rw[FK he]at TR;obtain⟨nb,afv,hnv,⟨sv0,hc0⟩,hf0,hG3,hK3⟩:=eG.sub HG.out hat hB0 TR;obtain⟨y0,y1⟩:wr.cell? ⟨G,0,none⟩=some Kt∧wr.cell? ⟨G,1,none⟩=some (.map (some M)):=by
    have hblk:=HG.out.blk;constructor<;>simp[Ξ.cell?,hblk]
   rw[he]at hG3 hK3;have Uz:Hid (Grown w0 wb (wr.setCell ⟨nb,at_*5+4,none⟩ (.slice (some ⟨B,0,none⟩) vs.length vs.length)) G M κ E MB SX { g2 with nodes:=bE g2.nodes at_ ks }∧gO w0 K κ E g2.met):=by
    subst hks hg2;refine⟨⟨_,_,hG3,jO.put HK.out hK3 Xk.out,Xk.out,λsv rM b hb'=>?_⟩,HM.out⟩;rcases List.mem_or_eq_of_mem_set rM with h1|h1
    ·exact HNS.out sv h1 b hb'
    ·subst h1;cases hb';exact .inr Uj
   subst hnv;have afw:(at_:Int)<(gj.nodes.length:Int):=by omega
   clear hG3 hK3 TR HN HD SY HG HM HK Xk HNS HB HBN ku hks hg2;go_wp2_with fail;go_ret;exact⟨rfl,Uz.out⟩
end
theorem Qa (n:Nat):ζ #[Γ Δ 0] n=iV [] n:=by
 unfold ζ iV;apply Array.ext
 ·simp
 ·intro i h1 h2;simp[Nat.mod_one]
section
variable {w0 w:Ξ}{G M K:Nat}{κ:Nat→HK}{E:Env}{g:fP}{bN:List Λ}{nv:Λ}
theorem eG.above {w':Ξ}(h:eG w0 w G M κ E g bN nv)(hb:θ w.heap.size w w'):eG w0 w' G M κ E g bN nv:=by
 obtain⟨es,c,hm,YR⟩:=h.map;have hl:=h.low.size;refine⟨h.gm,h.glo,h.mlo,⟨hb.os.trans h.low.os,hb.tape.trans h.low.tape,hb.output.trans h.low.output,zag hl hb.size,λb hb'=>(hb.block b (by omega)).trans (h.low.block b hb')⟩,(hb.block G (zaj.1 h.blk).1).trans h.blk,bC h.row (zac _) λb _ hlt=>hb.block b hlt,⟨es,c,(hb.block M (zaj.1 hm).1).trans hm,YR⟩,h.len,λj x sv hx rM=>?_⟩;rcases h.subs j x sv hx rM with q|⟨b,q1,q2,q3⟩
 ·exact .inl q
 ·exact .inr ⟨b,q1,q2,(hb.block b (zaj.1 q3).1).trans q3⟩
theorem eG.sub_lt (h:eG w0 w G M κ E g bN nv):∀sv∈bN,∀b,sv.ownBlock=some b→b<w.heap.size:=by
 intro sv rM b hb;obtain⟨j,hj⟩:=List.mem_iff_getElem?.1 rM;have xJ:j<g.nodes.length:=by rw[←h.len];exact(zbh.1 hj).1
 rcases h.subs j _ sv (zat xJ) hj with⟨rfl,_⟩|⟨b',rfl,_,q3⟩
 ·cases hb
 ·cases hb;exact(zaj.1 q3).1
theorem yN (hgr:mY w0 lo K L κ E root)(ih:∀m,m≤n→yL w0 lo K L κ E root G M m)(h:eG w0 w G M κ E g bN nv)(hm:gO w0 K κ E g.met)(hi:i<K){hk:HK}(Xl:rI w0 hk (E.α i))(c:Nat)
 (l:Dt)(hv:Λ)(vs:List Λ)(hD:df lo K L w0 E l vs)(dh:bH root l=true)(SI:vs.length≤1000)(hrow:w.ownsRow 0 58 1 hv vs.length vs)(k:Nat)(g':fP)
 (cO:(match g.met.lookup i with|some k=>some (k,g)|none=>(ahF root n l [] ⟨g.nodes++[⟨c,[],0,0,[]⟩],(i,g.nodes.length)::g.met⟩).map λy=>(g.nodes.length,{ y.2 with nodes:=bE y.2.nodes g.nodes.length y.1 }))=some (k,g'))(hlen:g'.nodes.length≤999999):
 Φ prog 80 #[aC G,kU hk (E.α i),Γ Δ c,hv] w λe w'=>e=.returned (Γ Δ (k:Nat))∧Grown w0 w w' G M κ E bN nv g'∧gO w0 K κ E g'.met:=by
 have hκ:κ i=hk:=hgr.kind i hk hi Xl;have hat:rI w0 (κ i) (E.α i):=by rw[hκ];exact Xl
 have cU:=h.look hm hgr.inj hi hat
 obtain⟨ha,hc,rfl⟩:=bD hrow;obtain⟨g0,g1⟩:w.cell? ⟨G,0,none⟩=some nv∧w.cell? ⟨G,1,none⟩=some (.map (some M)):=by
  constructor<;>simp[Ξ.cell?,h.blk]
 cases hq:g.met.lookup i with
 |some k0=>
  rw[hq]at cO;cases cO;rw[hq,hκ]at cU;simp only[zbg,Option.isSome_some]at cU;have HG:Hid _:=(⟨Grown.refl h,hm⟩:_∧_);clear h hm hat hD hrow dh;unfold kU aC at cU ⊢;go_enter func80,ntmps80;go_wp2_with fail;go_ret;exact⟨rfl,HG.out⟩
 |none=>
  rw[hq]at cO;obtain⟨⟨ks,g2⟩,hL,e⟩:=zas.1 cO;cases e;have SH:=(my root n).2 _ _ _ _ _ hL;have Xm:g2.nodes.length≤999999:=by simpa[bE]using hlen
  have rq:g.nodes.length+1≤1000000:=by simp at SH;omega
  rw[hq,hκ]at cU;simp only[zbH,Option.isSome_none]at cU;have HC:Hid _:=kW h ⟨c,[],0,0,[]⟩ rfl rq;have hmk:=run_make_row' (P:=prog) 43 3 (Γ Δ 0) 8 underlying43 FJ rfl .i64 .i64 vs.length (by omega) (by omega);have HH:Hid _:=h;have HM:Hid _:=hm;have G3:Hid _:=hgr;have Dh:Hid _:=hat
  have HL:Hid _:=hL;have ku:Hid _:=hrow;have yM:Hid _:=ih;clear h hm hgr hat hL cO hrow ih;unfold kU aC at cU ⊢;unfold aC kt at HC;simp only at HC;go_enter func80,ntmps80;go_wp2_with fail;refine zai HC.out ?_;rintro e w1 ⟨rfl,uz⟩;obtain⟨MA,Xj,h1,k1,b1,s1⟩:=id uz;obtain⟨o,hput,hmap⟩:=yG h1.map i g.nodes.length (rI.low Dh.out h1.low) (λp hp=>rI.low (HM.out.at_ p hp).2 h1.low) (λp hp e=>G3.out.inj i p.1 hi (HM.out.at_ p hp).1 e) HM.out.nd hq;obtain⟨abb,nv2,h2,k2,b2,s2⟩:=Grown.met uz hmap;obtain⟨y0,y1⟩:w1.cell? ⟨G,0,none⟩=some Xj∧w1.cell? ⟨G,1,none⟩=some (.map (some M)):=by
   constructor<;>simp[Ξ.cell?,h1.blk]
  rw[hκ]at hput;unfold kU aC at hput;have DN:gO w0 K κ E ((i,g.nodes.length)::g.met):=by
   refine⟨λp hp=>?_,?_⟩
   ·rcases zal.1 hp with rfl|hp
    ·exact⟨hi,Dh.out⟩
    ·exact HM.out.at_ p hp
   ·rw[zaB,zco];refine⟨λAH=>?_,HM.out.nd⟩;obtain⟨q,hq1,Bt⟩:=zbo.1 AH;have:=List.lookup_eq_none_iff.1 hq q hq1;simp[Bt]at this
  have h1b:=h1.blk;generalize hw2:({ w1 with heap:=w1.heap.setIfInBounds M o }:Ξ)=w2 at *;have hs2:=k2.size;have mk2:=hmk w2;have hb3:θ w2.heap.size w2 (w2.alloc (.cells (ζ #[Γ Δ 0] vs.length) 3)):=(zad _ _).alloc (zac _) _;have h3:=h2.above hb3;have Xn:Hid ((w2.alloc (.cells (ζ #[Γ Δ 0] vs.length) 3)).ownsRow 0 58 1 (.slice ha vs.length hc) vs.length vs):=by
   have hrow:=ku.out;refine⟨hrow.1,hrow.2.imp id ?_⟩;rintro ⟨b,cp,cu,p1,p2,p3,p4⟩;have hbl:b<w.heap.size:=(zaj.1 p3).1;have hbG:b≠G:=λe=>by rw[e,HH.out.blk]at p3;simp at p3
   have hbM:b≠M:=λe=>by obtain⟨es,cl,q2,-⟩:=HH.out.map;rw[e,q2]at p3;simp at p3
   have hbN:=eG.ux HH.out b _ p3 (λcur e=>by simp at e);exact⟨b,cp,cu,p1,p2,(hb3.block b (by omega)).trans ((k2.block b hbl hbG hbM hbN).trans p3),p4⟩
  have nZ:Hid (jO G M nv.ownBlock w (w2.alloc (.cells (ζ #[Γ Δ 0] vs.length) 3))):=k2.trans ((Kp.aG hb3).a _);have hw0:=h2.low.size;have HT:Hid _:=FL yM.out w (w2.alloc (.cells (ζ #[Γ Δ 0] vs.length) 3)) bN nv g.nodes.length w2.heap.size (.slice ha vs.length hc) vs l _ g2 abb nv2 ks HL.out Xm (by simp) SI hD dh h3 DN nZ.out b2 s2 (by rw[zav,Qa]) hs2 hw0 (λsv rM e=>by have:=h2.sub_lt sv rM _ e;omega) Xn.out;clear uz h1 k1 b1 s1 hmap h2 k2 b2 s2 hb3 h3 DN hw2 HC HL yM ku Xn nZ HH HM G3 Dh hmk
  go_upto_region 6 with fail
  rename_i hK;have HKK:Hid _:=hK;clear hK;go_wp2_with fail;exact HKK.out _ _ (HT.out _ _ _ _ _ _ _ _ _ _ _ _ _ _ _ _ _ _ _ _ _ _ _ _ _ _ _ _ _ _ _ _ _ _ _ _ _ _ _ _ _ _ _ _ _ _ _ _ _ _ _ _ _ _ _ _ _ _)
end
theorem oU:jY prog 150=true:=by kernel_rfl
theorem yO:(prog.info? 150).bind (·.zero)=some (.pointer none):=by kernel_rfl
theorem mZ:jY prog 163=true:=by kernel_rfl
theorem zeroV:(prog.info? 163).bind (·.zero)=some (.pointer none):=by kernel_rfl
theorem uA:jY prog 158=true:=by kernel_rfl
theorem FM:(prog.info? 158).bind (·.zero)=some (.pointer none):=by kernel_rfl
theorem yP:jY prog 168=true:=by kernel_rfl
theorem Ku:(prog.info? 168).bind (·.zero)=some (.agg #[.string ⟨#[]⟩]):=by kernel_rfl
theorem Di:jY prog 153=true:=by kernel_rfl
theorem IV:(prog.info? 153).bind (·.zero)=some (.agg #[Γ Δ 0,Γ Δ 0]):=by kernel_rfl
theorem Dj:jY prog 155=true:=by kernel_rfl
theorem Qb:(prog.info? 155).bind (·.zero)=some (.agg #[Γ Δ 0]):=by kernel_rfl
theorem Qc:jY prog 157=true:=by kernel_rfl
theorem abc:(prog.info? 157).bind (·.zero)=some (.agg #[Γ Δ 0]):=by kernel_rfl
theorem MC (s:ByteArray)(w:Ξ)(Yy:s.size≤281474976710656):Φ prog 83 #[.string s] w λe w'=>e=.returned (.string s)∧θ w.heap.size w w':=by
 have HC:Hid _:=Tryz.stringslite_Clone s w Yy;go_enter func83,ntmps83;go_wp2_with fail;refine zai HC.out ?_;rintro e w1 ⟨rfl,hb⟩;have HB:Hid _:=hb;clear hb;go_wp2_with fail;go_ret;exact⟨rfl,HB.out⟩
section
variable {w0 w:Ξ}{G M K lo:Nat}{L:List Int}{κ:Nat→HK}{E:Env}{g:fP}{bN:List Λ}{nv v:Λ}
theorem Grown.above {w1 w2:Ξ}{g':fP}(h:Grown w0 w1 w2 G M κ E bN nv g')(hb:θ w.heap.size w w1):Grown w0 w w2 G M κ E bN nv g':=by
 obtain⟨yJ,Uw,h1,h2,h3,h4⟩:=h;have hs:=hb.size;exact⟨yJ,Uw,h1,((Kp.aG hb).a _).trans h2,h3.imp id (λ⟨b,e,q⟩=>⟨b,e,by omega⟩),λsv rM b hb'=>(h4 sv rM b hb').imp id λq=>by omega⟩
theorem UA (h:eG w0 w G M κ E g bN nv)(hl:g.nodes.length+1≤1000000)(HC:Hid (Φ prog 78 #[v] w λe w'=>∃v',e=.returned v'∧w'=w∧ct lo K L w0 E .nil v')):Φ prog 48 #[aC G,v] w λe w'=>e=.returned (Γ Δ (g.nodes.length:Nat))∧Grown w0 w w' G M κ E bN nv (g.add ⟨0,[],0,0,[]⟩):=by
 have HA:Hid _:=kW h ⟨0,[],0,0,[]⟩ rfl hl;clear h;unfold aC kt at HA;simp only at HA;unfold aC;go_enter func48,ntmps48;go_wp2_with fail;refine zai HC.out ?_;rintro e w' ⟨v',rfl,rfl,hd⟩;unfold ct at hd;subst hd;have a1:(Θ (.iface 272 (.agg #[])) 58 150 true).run prog w'=_:=au w' oU yO (by decide);have a2:(Θ (.iface 272 (.agg #[])) 58 163 true).run prog w'=_:=au w' mZ zeroV (by decide);have a3:(Θ (.iface 272 (.agg #[])) 58 158 true).run prog w'=_:=au w' uA FM (by decide);have a4:(Θ (.iface 272 (.agg #[])) 58 168 true).run prog w'=_:=au w' yP Ku (by decide);have a5:(Θ (.iface 272 (.agg #[])) 58 153 true).run prog w'=_:=au w' Di IV (by decide);have a6:(Θ (.iface 272 (.agg #[])) 58 155 true).run prog w'=_:=au w' Dj Qb (by decide);have a7:(Θ (.iface 272 (.agg #[])) 58 157 true).run prog w'=_:=au w' Qc abc (by decide);clear HC;go_wp2_with fail;refine zai HA.out ?_;rintro e w1 ⟨rfl,uz⟩;have HG:Hid _:=uz;clear uz HA;go_wp2_with fail;go_ret;exact⟨rfl,HG.out⟩
end
section
variable {w0 w:Ξ}{G M K lo:Nat}{L:List Int}{κ:Nat→HK}{E:Env}{g:fP}{bN:List Λ}{nv v:Λ}
theorem UB (a b:Int)(h:eG w0 w G M κ E g bN nv)(hl:g.nodes.length+1≤1000000)(HC:Hid (Φ prog 78 #[v] w λe w'=>∃v',e=.returned v'∧w'=w∧ct lo K L w0 E (.num a b) v')):Φ prog 48 #[aC G,v] w λe w'=>e=.returned (Γ Δ (g.nodes.length:Nat))∧Grown w0 w w' G M κ E bN nv (g.add ⟨5,[],a,b,[]⟩):=by
 have hb:θ w.heap.size w (w.alloc (.cells #[Γ Δ a,Γ Δ b] 153)):=(zad _ _).alloc (zac _) _;have HB:Hid _:=hb;have HA:Hid _:=kW (h.above hb) ⟨5,[],a,b,[]⟩ rfl hl;clear h hb;unfold aC kt at HA;simp only at HA;unfold aC;go_enter func48,ntmps48;go_wp2_with fail;refine zai HC.out ?_;rintro e w' ⟨v',rfl,rfl,hd⟩;unfold ct at hd;subst hd;have a1:(Θ (.iface 153 (.agg #[Γ Δ a,Γ Δ b])) 58 150 true).run prog w'=_:=au w' oU yO (by decide);have a2:(Θ (.iface 153 (.agg #[Γ Δ a,Γ Δ b])) 58 163 true).run prog w'=_:=au w' mZ zeroV (by decide);have a3:(Θ (.iface 153 (.agg #[Γ Δ a,Γ Δ b])) 58 158 true).run prog w'=_:=au w' uA FM (by decide);have a4:(Θ (.iface 153 (.agg #[Γ Δ a,Γ Δ b])) 58 168 true).run prog w'=_:=au w' yP Ku (by decide);have a5:(Θ (.iface 153 (.agg #[Γ Δ a,Γ Δ b])) 58 153 true).run prog w'=_:=dM w' Di;clear HC;go_wp2_with fail;refine zai HA.out ?_;rintro e w1 ⟨rfl,uz⟩;have HG:Hid _:=Grown.above uz HB.out;clear uz HA HB;go_wp2_with fail;go_ret;exact⟨rfl,HG.out⟩
theorem MD (a:Int)(h:eG w0 w G M κ E g bN nv)(hl:g.nodes.length+1≤1000000)(HC:Hid (Φ prog 78 #[v] w λe w'=>∃v',e=.returned v'∧w'=w∧ct lo K L w0 E (.cD a) v')):Φ prog 48 #[aC G,v] w λe w'=>e=.returned (Γ Δ (g.nodes.length:Nat))∧Grown w0 w w' G M κ E bN nv (g.add ⟨6,[],a,0,[]⟩):=by
 have hb:θ w.heap.size w (w.alloc (.cells #[Γ Δ a] 155)):=(zad _ _).alloc (zac _) _;have HB:Hid _:=hb;have HA:Hid _:=kW (h.above hb) ⟨6,[],a,0,[]⟩ rfl hl;clear h hb;unfold aC kt at HA;simp only at HA;unfold aC;go_enter func48,ntmps48;go_wp2_with fail;refine zai HC.out ?_;rintro e w' ⟨v',rfl,rfl,hd⟩;unfold ct at hd;subst hd;have a1:(Θ (.iface 155 (.agg #[Γ Δ a])) 58 150 true).run prog w'=_:=au w' oU yO (by decide);have a2:(Θ (.iface 155 (.agg #[Γ Δ a])) 58 163 true).run prog w'=_:=au w' mZ zeroV (by decide);have a3:(Θ (.iface 155 (.agg #[Γ Δ a])) 58 158 true).run prog w'=_:=au w' uA FM (by decide);have a4:(Θ (.iface 155 (.agg #[Γ Δ a])) 58 168 true).run prog w'=_:=au w' yP Ku (by decide);have a5:(Θ (.iface 155 (.agg #[Γ Δ a])) 58 153 true).run prog w'=_:=au w' Di IV (by decide);have a6:(Θ (.iface 155 (.agg #[Γ Δ a])) 58 155 true).run prog w'=_:=dM w' Dj;clear HC;go_wp2_with fail;refine zai HA.out ?_;rintro e w1 ⟨rfl,uz⟩;have HG:Hid _:=Grown.above uz HB.out;clear uz HA HB;go_wp2_with fail;go_ret;exact⟨rfl,HG.out⟩
theorem UC (a:Int)(h:eG w0 w G M κ E g bN nv)(hl:g.nodes.length+1≤1000000)(HC:Hid (Φ prog 78 #[v] w λe w'=>∃v',e=.returned v'∧w'=w∧ct lo K L w0 E (.kB a) v')):Φ prog 48 #[aC G,v] w λe w'=>e=.returned (Γ Δ (g.nodes.length:Nat))∧Grown w0 w w' G M κ E bN nv (g.add ⟨7,[],a,0,[]⟩):=by
 have hb:θ w.heap.size w (w.alloc (.cells #[Γ Δ a] 157)):=(zad _ _).alloc (zac _) _;have HB:Hid _:=hb;have HA:Hid _:=kW (h.above hb) ⟨7,[],a,0,[]⟩ rfl hl;clear h hb;unfold aC kt at HA;simp only at HA;unfold aC;go_enter func48,ntmps48;go_wp2_with fail;refine zai HC.out ?_;rintro e w' ⟨v',rfl,rfl,hd⟩;unfold ct at hd;subst hd;have a1:(Θ (.iface 157 (.agg #[Γ Δ a])) 58 150 true).run prog w'=_:=au w' oU yO (by decide);have a2:(Θ (.iface 157 (.agg #[Γ Δ a])) 58 163 true).run prog w'=_:=au w' mZ zeroV (by decide);have a3:(Θ (.iface 157 (.agg #[Γ Δ a])) 58 158 true).run prog w'=_:=au w' uA FM (by decide);have a4:(Θ (.iface 157 (.agg #[Γ Δ a])) 58 168 true).run prog w'=_:=au w' yP Ku (by decide);have a5:(Θ (.iface 157 (.agg #[Γ Δ a])) 58 153 true).run prog w'=_:=au w' Di IV (by decide);have a6:(Θ (.iface 157 (.agg #[Γ Δ a])) 58 155 true).run prog w'=_:=au w' Dj Qb (by decide);have a7:(Θ (.iface 157 (.agg #[Γ Δ a])) 58 157 true).run prog w'=_:=dM w' Qc;clear HC;go_wp2_with fail;refine zai HA.out ?_;rintro e w1 ⟨rfl,uz⟩;have HG:Hid _:=Grown.above uz HB.out;clear uz HA HB;go_wp2_with fail;go_ret;exact⟨rfl,HG.out⟩
theorem UD (s:List UInt8)(hs:s.length≤1000000)(h:eG w0 w G M κ E g bN nv)(hl:g.nodes.length+1≤1000000)(HC:Hid (Φ prog 78 #[v] w λe w'=>∃v',e=.returned v'∧w'=w∧ct lo K L w0 E (.sym s) v')):Φ prog 48 #[aC G,v] w λe w'=>e=.returned (Γ Δ (g.nodes.length:Nat))∧Grown w0 w w' G M κ E bN nv (g.add ⟨4,s,0,0,[]⟩):=by
 have hb:θ w.heap.size w (w.alloc (.cells #[.string ⟨⟨s⟩⟩] 168)):=(zad _ _).alloc (zac _) _;have Xo:Hid _:=MC ⟨⟨s⟩⟩ (w.alloc (.cells #[.string ⟨⟨s⟩⟩] 168)) (by show s.length≤_;omega);have HB:Hid _:=hb;have HH:Hid _:=h;clear h hb;unfold aC;go_enter func48,ntmps48;go_wp2_with fail;refine zai HC.out ?_;rintro e w' ⟨v',rfl,rfl,hd⟩;unfold ct at hd;subst hd;have a1:(Θ (.iface 168 (.agg #[.string ⟨⟨s⟩⟩])) 58 150 true).run prog w'=_:=au w' oU yO (by decide);have a2:(Θ (.iface 168 (.agg #[.string ⟨⟨s⟩⟩])) 58 163 true).run prog w'=_:=au w' mZ zeroV (by decide);have a3:(Θ (.iface 168 (.agg #[.string ⟨⟨s⟩⟩])) 58 158 true).run prog w'=_:=au w' uA FM (by decide);have a4:(Θ (.iface 168 (.agg #[.string ⟨⟨s⟩⟩])) 58 168 true).run prog w'=_:=dM w' yP;clear HC;go_wp2_with fail;refine zai Xo.out ?_;rintro e w2 ⟨rfl,hb2⟩;have hb3:θ w'.heap.size w' w2:=⟨hb2.os.trans HB.out.os,hb2.tape.trans HB.out.tape,hb2.output.trans HB.out.output,zag HB.out.size hb2.size,λb hlt=>(hb2.block b (zaI hlt HB.out.size)).trans (HB.out.block b hlt)⟩;have iT:Hid _:=hb3;have HA:Hid _:=kW (eG.above HH.out hb3) ⟨4,s,0,0,[]⟩ rfl hl;clear hb2 hb3 Xo HB HH;unfold aC kt at HA;simp only at HA;go_wp2_with fail;refine zai HA.out ?_;rintro e w1 ⟨rfl,uz⟩;have HG:Hid _:=Grown.above uz iT.out;clear uz HA iT;go_wp2_with fail;go_ret;exact⟨rfl,HG.out⟩
end
section
variable {w0 w:Ξ}{G M K lo:Nat}{L:List Int}{κ:Nat→HK}{E:Env}{g:fP}{bN:List Λ}{nv v:Λ}{root:Dt}
theorem df.len:∀{l:Dt} {vs:List Λ},df lo K L w0 E l vs→vs.length=l.mX
 |.br a l,vs,h=>by
  unfold df at h;obtain⟨v,r,rfl,_,h2⟩:=h;simp[Dt.mX,df.len h2]
 |.cZ,vs,h=>by unfold df at h;subst h;rfl
 |.nil,_,h=>by unfold df at h;exact h.elim
 |.sym _,_,h=>by unfold df at h;exact h.elim
 |.num _ _,_,h=>by unfold df at h;exact h.elim
 |.cD _,_,h=>by unfold df at h;exact h.elim
 |.kB _,_,h=>by unfold df at h;exact h.elim
 |.txt _ _,_,h=>by unfold df at h;exact h.elim
 |.pair _ _ _,_,h=>by unfold df at h;exact h.elim
 |.vec _ _,_,h=>by unfold df at h;exact h.elim
 |.put _ _,_,h=>by unfold df at h;exact h.elim
 |.ask _,_,h=>by unfold df at h;exact h.elim
theorem ct.iface:∀{d:Dt} {v:Λ},ct lo K L w0 E d v→∃t y,v=.iface t y
 |.nil,v,h=>by unfold ct at h;exact⟨_,_,h⟩
 |.sym _,v,h=>by unfold ct at h;exact⟨_,_,h⟩
 |.num _ _,v,h=>by unfold ct at h;exact⟨_,_,h⟩
 |.cD _,v,h=>by unfold ct at h;exact⟨_,_,h⟩
 |.kB _,v,h=>by unfold ct at h;exact⟨_,_,h⟩
 |.txt _ _,v,h=>by unfold ct at h;exact⟨_,_,h.2.2.1⟩
 |.pair _ _ _,v,h=>by unfold ct at h;exact⟨_,_,h.2.2.1⟩
 |.vec _ _,v,h=>by unfold ct at h;exact⟨_,_,h.2.2.1⟩
 |.put _ d,v,h=>by unfold ct at h;exact ct.iface (d:=d) h.2.2.2
 |.ask _,v,h=>by unfold ct at h;exact⟨_,_,h.2⟩
 |.cZ,v,h=>by unfold ct at h;exact h.elim
 |.br _ _,v,h=>by unfold ct at h;exact h.elim
theorem UE (i:Nat)(s:List UInt8)(hgr:mY w0 lo K L κ E root)(h:eG w0 w G M κ E g bN nv)(hm:gO w0 K κ E g.met)(hl:g.nodes.length+1≤1000000)(HC:Hid (Φ prog 78 #[v] w λe w'=>∃v',e=.returned v'∧w'=w∧ct lo K L w0 E (.txt i s) v'))(k:Nat)(g':fP)
 (cO:(match g.met.lookup i with|some k=>some (k,g)|none=>some (g.nodes.length,⟨g.nodes++[⟨3,s,0,0,[]⟩],(i,g.nodes.length)::g.met⟩))=some (k,g')):
 Φ prog 48 #[aC G,v] w λe w'=>e=.returned (Γ Δ (k:Nat))∧Grown w0 w w' G M κ E bN nv g'∧i<K∧rI w0 (κ i) (E.α i):=by
 have HH:Hid _:=h;have HM:Hid _:=hm;have G3:Hid _:=hgr;have HN:Hid _:=cO;clear h hm hgr cO;unfold aC;go_enter func48,ntmps48;go_wp2_with fail;refine zai HC.out ?_;rintro e w' ⟨v',rfl,rfl,hd⟩;unfold ct at hd;obtain⟨hi,-,rfl,hx⟩:=hd;have hk:κ i=.txt:=G3.out.kind i .txt hi ⟨_,hx⟩;have hat:rI w0 (κ i) (E.α i):=by rw[hk];exact⟨_,hx⟩
 have Dh:Hid _:=hat
 have HT:Hid _:=P6 HH.out HM.out G3.out.inj hi hk hx hl;unfold aC at HT ⊢;have a1:(Θ (.iface 158 (.pointer (some ⟨E.α i,0,none⟩))) 58 150 true).run prog w'=_:=au w' oU yO (by decide);have a2:(Θ (.iface 158 (.pointer (some ⟨E.α i,0,none⟩))) 58 163 true).run prog w'=_:=au w' mZ zeroV (by decide);have a3:(Θ (.iface 158 (.pointer (some ⟨E.α i,0,none⟩))) 58 158 true).run prog w'=_:=dM w' uA;clear HC hx HH HM G3 hat
 go_wp2_with fail;refine zai HT.out ?_;rintro e w1 ⟨k1,g1,hq,rfl,uz⟩;obtain⟨rfl,rfl⟩:k1=k∧g1=g':=by
  have:=hq.symm.trans HN.out;simp only[zaE,zaf]at this;exact this
 have HG:Hid _:=uz;clear hq uz HT HN;go_wp2_with fail;go_ret;exact⟨rfl,HG.out,hi,Dh.out⟩
theorem UF (i:Nat)(l:Dt)(hgr:mY w0 lo K L κ E root)(ih:∀m,m≤n→yL w0 lo K L κ E root G M m)(h:eG w0 w G M κ E g bN nv)(hm:gO w0 K κ E g.met)(dh:bH root (.vec i l)=true)(HC:Hid (Φ prog 78 #[v] w λe w'=>∃v',e=.returned v'∧w'=w∧ct lo K L w0 E (.vec i l) v'))(k:Nat)(g':fP)
 (cO:(match g.met.lookup i with|some k=>some (k,g)|none=>(ahF root n l [] ⟨g.nodes++[⟨2,[],0,0,[]⟩],(i,g.nodes.length)::g.met⟩).map λy=>(g.nodes.length,{ y.2 with nodes:=bE y.2.nodes g.nodes.length y.1 }))=some (k,g'))(hlen:g'.nodes.length≤999999):
 Φ prog 48 #[aC G,v] w λe w'=>e=.returned (Γ Δ (k:Nat))∧Grown w0 w w' G M κ E bN nv g'∧gO w0 K κ E g'.met:=by
 have HH:Hid _:=h;have HM:Hid _:=hm;have G3:Hid _:=hgr;have yM:Hid _:=ih;have HN:Hid _:=cO;simp only[bH,zae,zaK]at dh;clear h hm hgr ih cO;unfold aC;go_enter func48,ntmps48;go_wp2_with fail;refine zai HC.out ?_;rintro e w' ⟨v',rfl,rfl,hd⟩;unfold ct at hd;obtain⟨hi,-,rfl,sl,vs,hx,hrow,hdl⟩:=hd;have fV:=HH.out.low;have HT:Hid _:=yN G3.out yM.out HH.out HM.out hi (hk:= .vec) ⟨_,hx⟩ 2 l sl vs hdl dh.2 (by rw[hdl.len];exact dh.1) (bC hrow (zaq _) λb _ hb=>fV.block b hb) k g' HN.out hlen;have hx1:=(fV.block (E.α i) (zaj.1 hx).1).trans hx;have x0:w'.cell? ⟨E.α i,0,none⟩=some sl:=by simp[Ξ.cell?,hx1]
 unfold kU aC at HT;unfold aC;simp only[HK.p]at HT;have a1:(Θ (.iface 163 (.pointer (some ⟨E.α i,0,none⟩))) 58 150 true).run prog w'=_:=au w' oU yO (by decide);have a2:(Θ (.iface 163 (.pointer (some ⟨E.α i,0,none⟩))) 58 163 true).run prog w'=_:=dM w' mZ;clear HC hx HH HM G3 yM HN fV hx1 hrow hdl;go_wp2_with fail;refine zai HT.out ?_;rintro e w1 ⟨rfl,uz⟩;have HG:Hid _:=uz;clear uz HT;go_wp2_with fail;go_ret;exact⟨rfl,HG.out⟩
theorem Qd (i:Nat)(a b:Dt)(hgr:mY w0 lo K L κ E root)(ih:∀m,m≤n→yL w0 lo K L κ E root G M m)(h:eG w0 w G M κ E g bN nv)(hm:gO w0 K κ E g.met)(dh:bH root (.pair i a b)=true)(HC:Hid (Φ prog 78 #[v] w λe w'=>∃v',e=.returned v'∧w'=w∧ct lo K L w0 E (.pair i a b) v'))(k:Nat)(g':fP)
 (cO:(match g.met.lookup i with|some k=>some (k,g)|none=>(ahF root n (.br a (.br b .cZ)) [] ⟨g.nodes++[⟨1,[],0,0,[]⟩],(i,g.nodes.length)::g.met⟩).map λy=>(g.nodes.length,{ y.2 with nodes:=bE y.2.nodes g.nodes.length y.1 }))=some (k,g'))(hlen:g'.nodes.length≤999999):
 Φ prog 48 #[aC G,v] w λe w'=>e=.returned (Γ Δ (k:Nat))∧Grown w0 w w' G M κ E bN nv g'∧gO w0 K κ E g'.met:=by
 have mixed:prog.follows Departure.mixedOrders=true:=by kernel_rfl
 have HH:Hid _:=h;have HM:Hid _:=hm;have G3:Hid _:=hgr;have yM:Hid _:=ih;have HN:Hid _:=cO;simp only[bH,zae]at dh;clear h hm hgr ih cO;unfold aC;go_enter func48,ntmps48;go_wp2_with fail;refine zai HC.out ?_;rintro e w' ⟨v',rfl,rfl,hd⟩;unfold ct at hd;obtain⟨hi,-,rfl,va,vb,hx,hda,hdb⟩:=hd;obtain⟨ta,ya,rfl⟩:=hda.iface;obtain⟨tb,yb,rfl⟩:=hdb.iface;have fV:=HH.out.low;have hb:θ w'.heap.size w' ((w'.alloc (.cells #[.iface ta ya,.iface tb yb] 58)).drew):=((zad _ _).alloc (zac _) _).drew;have HB:Hid _:=hb;have HT:Hid _:=yN G3.out yM.out (eG.above HH.out hb) HM.out hi (hk:= .pair) ⟨_,hx⟩ 1 (.br a (.br b .cZ)) (.slice (some ⟨w'.heap.size,0,none⟩) 2 2) [.iface ta ya,.iface tb yb] (by unfold df;exact⟨.iface ta ya,[.iface tb yb],rfl,hda,by unfold df;exact⟨.iface tb yb,[],rfl,hdb,by unfold df;rfl⟩⟩) (by simp[bH,dh]) (by simp) (bC (w:=w'.alloc (.cells #[.iface ta ya,.iface tb yb] 58)) (aa6 w' _ _) (zaq _) λ_ _ _=>rfl) k g' HN.out hlen;have hx1:=(fV.block (E.α i) (zaj.1 hx).1).trans hx;have x0:w'.cell? ⟨E.α i,0,none⟩=some (.iface ta ya):=by simp[Ξ.cell?,hx1]
 have x1:w'.cell? ⟨E.α i,1,none⟩=some (.iface tb yb):=by simp[Ξ.cell?,hx1]
 unfold kU aC at HT;unfold aC;simp only[HK.p]at HT;have a1:(Θ (.iface 150 (.pointer (some ⟨E.α i,0,none⟩))) 58 150 true).run prog w'=_:=dM w' oU;clear HC hx HH HM G3 yM HN fV hx1 hda hdb hb;go_wp2_with fail
 go_region_with (refine zai HT.out ?_;rintro e w1 ⟨rfl,uz⟩;have HG:Hid _:=uz;clear uz)
 all_goals
  go_wp2_with fail;go_ret;exact⟨rfl,Grown.above HG.out.1 HB.out,HG.out.2⟩
end
theorem Qe:∀{d:Dt} {v:Λ} {w0:Ξ} {lo K:Nat} {L:List Int} {E:Env},ct lo K L w0 E d v→bH root d=true→(bQ root 200000 d).hd=true
 |.ask m,_,_,_,_,_,_,_,h=>by simp only[bH,zae]at h;exact h.2
 |.put n x,_,_,_,_,_,_,_,h=>by simp only[bH,zae]at h;exact h.1
 |.nil,_,_,_,_,_,_,_,_=>rfl
 |.sym _,_,_,_,_,_,_,_,_=>rfl
 |.num _ _,_,_,_,_,_,_,_,_=>rfl
 |.cD _,_,_,_,_,_,_,_,_=>rfl
 |.kB _,_,_,_,_,_,_,_,_=>rfl
 |.txt _ _,_,_,_,_,_,_,_,_=>rfl
 |.pair _ _ _,_,_,_,_,_,_,_,_=>rfl
 |.vec _ _,_,_,_,_,_,_,_,_=>rfl
 |.cZ,_,_,_,_,_,_,hd,_=>by unfold ct at hd;exact hd.elim
 |.br _ _,_,_,_,_,_,_,hd,_=>by unfold ct at hd;exact hd.elim
theorem gO.cons {w0:Ξ}{K:Nat}{κ:Nat→HK}{E:Env}{met:List (Nat×Nat)}(h:gO w0 K κ E met){k:Nat}(hi:i<K)(hat:rI w0 (κ i) (E.α i))(hq:met.lookup i=none):gO w0 K κ E ((i,k)::met):=by
 refine⟨λp hp=>?_,?_⟩
 ·rcases zal.1 hp with rfl|hp
  ·exact⟨hi,hat⟩
  ·exact h.at_ p hp
 ·rw[zaB,zco];refine⟨λAH=>?_,h.nd⟩;obtain⟨q,hq1,Bt⟩:=zbo.1 AH;have:=List.lookup_eq_none_iff.1 hq q hq1;simp[Bt]at this
section
variable {w0:Ξ}{G M K lo:Nat}{L:List Int}{κ:Nat→HK}{E:Env}{root:Dt}
theorem FN (hgr:mY w0 lo K L κ E root)(ih:∀m,m≤n→yL w0 lo K L κ E root G M m):yL w0 lo K L κ E root G M (n+1):=by
 intro d v w g bN nv k g' cK dh h hm cO hlen;obtain⟨rv,Kq⟩:=hgr.dat
 have uB:=Qe cK dh;have HC:Hid _:=Mz h.low Kq (iw hgr.good) 200000 d v cK (iw dh) uB;have hgm:=oT hgr.good 200000 d dh;have hgrow:=(my root (n+1)).1 _ _ _ _ cO;unfold ie at cO;cases ht:bQ root 200000 d with
 |nil=>
  rw[ht]at cO HC;cases cO;exact(UA h (by simp[fP.add]at hlen;omega) HC).mono λe w' hx=>⟨hx.1,hx.2,hm⟩
 |sym s=>
  rw[ht]at cO HC hgm;cases cO;exact(UD s (by simpa[bH]using hgm) h (by simp[fP.add]at hlen;omega) HC).mono λe w' hx=>⟨hx.1,hx.2,hm⟩
 |num a b=>
  rw[ht]at cO HC;cases cO;exact(UB a b h (by simp[fP.add]at hlen;omega) HC).mono λe w' hx=>⟨hx.1,hx.2,hm⟩
 |cD a=>
  rw[ht]at cO HC;cases cO;exact(MD a h (by simp[fP.add]at hlen;omega) HC).mono λe w' hx=>⟨hx.1,hx.2,hm⟩
 |kB a=>
  rw[ht]at cO HC;cases cO;exact(UC a h (by simp[fP.add]at hlen;omega) HC).mono λe w' hx=>⟨hx.1,hx.2,hm⟩
 |txt i s=>
  rw[ht]at cO HC;have hl:g.nodes.length+1≤1000000:=by omega
  refine(UE i s hgr h hm hl HC k g' cO).mono λe w' hx=>⟨hx.1,hx.2.1,?_⟩;cases hq:g.met.lookup i with
  |some k0=>simp only[hq]at cO;cases cO;exact hm
  |none=>simp only[hq]at cO;cases cO;exact hm.cons hx.2.2.1 hx.2.2.2 hq
 |pair i a b=>
  rw[ht]at cO HC hgm;exact Qd i a b hgr ih h hm hgm HC k g' cO hlen
 |vec i l=>
  rw[ht]at cO HC hgm;exact UF i l hgr ih h hm hgm HC k g' cO hlen
 |put n x=>rw[ht]at uB;simp[Dt.hd]at uB
 |ask m=>rw[ht]at uB;simp[Dt.hd]at uB
 |cZ=>rw[ht]at uB;simp[Dt.hd]at uB
 |br a l=>rw[ht]at uB;simp[Dt.hd]at uB
theorem FO (hgr:mY w0 lo K L κ E root):∀N n,n≤N→yL w0 lo K L κ E root G M n
 |0,n,h=>by
  obtain rfl:n=0:=by omega
  intro d v w g bN nv k g' _ _ _ _ cO;simp[ie]at cO
 |N+1,n,h=>by
  have ih:=FO hgr N;cases n with
  |zero=>exact ih 0 (zaq _)
  |succ n=>exact FN hgr λm hm=>ih m (by omega)
end
def b9 (w:Ξ)(lo:Nat)(nv:Λ)(bN:List Λ)(nodes:List eO):Prop:=
 w.ownsRow lo 45 5 nv nodes.length (tL nodes bN)∧bN.length=nodes.length∧∀(j:Nat) x sv,nodes[j]?=some x→bN[j]?=some sv→Xg w lo sv x.subs
theorem FP (w0:Ξ)(E:Env):∃κ:Nat→HK,∀i h,rI w0 h (E.α i)→κ i=h:=by
 have hex:∀i,∃k:HK,∀h,rI w0 h (E.α i)→k=h:=λi=>by
  by_cases e:∃h,rI w0 h (E.α i)
  ·obtain⟨h,hh⟩:=e;exact⟨h,λh' NF=>hh.same NF⟩
  ·exact⟨.txt,λh hh=>absurd ⟨h,hh⟩ e⟩
 exact⟨λi=>Classical.choose (hex i),λi=>zaP (hex i)⟩
theorem FQ {K:Nat}{E:Env}(w:Ξ)(root:Dt)(v:Λ)(hd:ct lo K L w E root v)(dh:bH root root=true)(yK:∀i j,i<K→j<K→E.α i=E.α j→i=j)(f:Nat)(k:Nat)(g':fP)(cO:ie root f root ⟨[],[]⟩=some (k,g'))(hlen:g'.nodes.length≤999999):Φ prog 30 #[v] w λe w'=>∃nv bN,e=.returned nv∧b9 w' w.heap.size nv bN g'.nodes∧θ w.heap.size w w':=by
 obtain⟨κ,hκ⟩:=FP w E;have hgr:mY w lo K L κ E root:=⟨⟨v,hd⟩,dh,yK,λi h _ hh=>hκ i h hh⟩;have hb2:θ w.heap.size w ((w.alloc (.map #[] 0)).alloc (.cells #[.slice none 0 0,.map (some w.heap.size)] 100)):=((zad _ w).alloc (zac _) _).alloc (by simp) _;have hG:eG w ((w.alloc (.map #[] 0)).alloc (.cells #[.slice none 0 0,.map (some w.heap.size)] 100)) (w.heap.size+1) w.heap.size κ E ⟨[],[]⟩ [] (.slice none 0 0):=
  ⟨by omega,by omega,zac _,hb2,en w _ _,zck _ _ _ _,⟨#[],0,(zaT _ _ _ (by simp)).trans (zav w _),rfl⟩,rfl,λj x sv h=>(by simp at h)⟩
 have HN:Hid _:=FO hgr f f (zac _) root v _ ⟨[],[]⟩ [] (.slice none 0 0) k g' hd dh hG ⟨λp hp=>(by cases hp),zcg⟩ cO hlen;have hmk:(Instr.makeMap 98 none).run prog w=.ok (.map (some w.heap.size)) (w.alloc (.map #[] 0)):=rfl;clear hgr hb2 hG hd dh yK cO;unfold aC at HN;go_enter func30,ntmps30;go_wp2_with fail;refine zai HN.out ?_;rintro e w1 ⟨rfl,⟨bN,nv,hG,-,-,-⟩,-⟩;have HF:Hid (b9 w1 w.heap.size nv bN g'.nodes∧θ w.heap.size w w1):=⟨⟨hG.row,hG.len,hG.subs⟩,hG.low⟩;have y0:w1.cell? ⟨w.heap.size+1,0,none⟩=some nv:=by
  have hblk:=hG.blk;simp[Ξ.cell?,hblk]
 clear hG HN;go_wp2_with fail;go_ret;exact⟨nv,bN,rfl,HF.out⟩
end Go.Proofs.YtlhimdjkkiflhaaGreatDoor
