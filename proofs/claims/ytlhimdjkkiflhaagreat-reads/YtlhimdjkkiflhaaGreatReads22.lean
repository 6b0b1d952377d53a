import Derived.Deep.RegionLaw
import Derived.Test.YtlhimdjkkiflhaaGreatReads20
set_option maxHeartbeats 8000000
set_option maxRecDepth 100000
open Go.Value renaming int→Γ
open Go.IntKind renaming i64→Δ
open Go renaming Value→Θ,World→Ξ,TypeId→Φ,Program→ζ,TypeInfo→η,Calls→θ
open Go.Instr renaming typeAssert→Λ,findNow→Ω
open Go.Addr renaming add→ι
namespace Go.Loop
def Dt.hd:Dt→Bool
 |.put _ _|.ask _|.ee |.bD _ _=>false
 |_=>true
section
variable (root:Dt)
mutual
def nj:Nat→Dt→jF→Option (Nat×jF)
 |0,_,_=>none
 |n+1,d,g=>
  match bY root 200000 d with
  |.pair i a b=>
   match g.met.lookup i with
   |some k=>some (k,g)
   |none=>(iQ n (.bD a (.bD b .ee)) [] ⟨g.nodes++[⟨1,[],0,0,[]⟩],(i,g.nodes.length)::g.met⟩).map λy=>(g.nodes.length,{ y.2 with nodes:=bP y.2.nodes g.nodes.length y.1 })
  |.vec i l=>
   match g.met.lookup i with
   |some k=>some (k,g)
   |none=>(iQ n l [] ⟨g.nodes++[⟨2,[],0,0,[]⟩],(i,g.nodes.length)::g.met⟩).map λy=>(g.nodes.length,{ y.2 with nodes:=bP y.2.nodes g.nodes.length y.1 })
  |.txt i s=>
   match g.met.lookup i with
   |some k=>some (k,g)
   |none=>some (g.nodes.length,⟨g.nodes++[⟨3,s,0,0,[]⟩],(i,g.nodes.length)::g.met⟩)
  |.sym s=>some (g.nodes.length,g.add ⟨4,s,0,0,[]⟩)
  |.num a b=>some (g.nodes.length,g.add ⟨5,[],a,b,[]⟩)
  |.dI a=>some (g.nodes.length,g.add ⟨6,[],a,0,[]⟩)
  |.oY a=>some (g.nodes.length,g.add ⟨7,[],a,0,[]⟩)
  |_=>some (g.nodes.length,g.add ⟨0,[],0,0,[]⟩)
def iQ:Nat→Dt→List Nat→jF→Option (List Nat×jF)
 |0,_,_,_=>none
 |n+1,l,acc,g=>
  match l with
  |.ee=>some (acc,g)
  |.bD a l=>(nj n a g).bind λx=>iQ n l (acc++[x.1]) x.2
  |_=>none
end
end
def fE (text:List UInt8)(depth:Int):Option (List dF×Nat×Int):=
 if depth<0∨30<depth then some ([],0,1)
 else if 400<text.length then some ([],0,2)
 else
  match aI (aH (text.length+1) text 0) depth.toNat 2000 ⟨0,false,[]⟩ ⟨0,0,[]⟩with
  |.out=>none
  |.fail e a=>some ([],a,e)
  |.ok d s=>(nj d 100000 d ⟨[],[]⟩).map λg=>if 150<g.2.nodes.length then([],0,2)else(g.2.nodes,(((aH (text.length+1) text 0)[s.k-1]?).map (·.jZ)).getD 0,0)
end Go.Loop
namespace Go.Proofs.YtlhimdjkkiflhaaGreat
open Go.Proofs.Tryz
open Go.RowKit Go.Loop
inductive HK where
 |pair
 |vec
 |txt
deriving DecidableEq
def HK.p:HK→Φ
 |.pair=>122
 |.vec=>127
 |.txt=>130
def HK.o:HK→Φ
 |.pair=>125
 |.vec=>129
 |.txt=>159
def kM (h:HK)(b:Nat):Θ:= .iface h.p (ai b)
def qB (w:Ξ)(h:HK)(b:Nat):Prop:=∃cs,w.heap[b]?=some (.cells cs h.o)
theorem qB.same {w:Ξ}{h h':HK}{b:Nat}(x:qB w h b)(y:qB w h' b):h=h':=by
 obtain⟨c,hc⟩:=x;obtain⟨c',hc'⟩:=y;rw[hc]at hc';cases h<;>cases h'<;>first|rfl|(simp[HK.o]at hc')
theorem Dk:((prog.underlying 31).any λd=>match d with|.interface _=>true|_=>false)=true:=by kernel_rfl
theorem mD:∃ms,prog.underlying 31=some (.interface ms):=by
 have h:=Dk;cases hq:prog.underlying 31 with
 |none=>rw[hq]at h;cases h
 |some d=>
  rw[hq]at h;cases d<;>first|exact⟨_,rfl⟩|(simp at h)
section
variable {P:ζ}
theorem mE (d:Nat){ti tx ty:Φ}{ms:Array (String×Φ)}{vx vy:Θ}(w:Ξ)(hi:P.underlying ti=some (.interface ms))(h:tx≠ty):(Op.equalIn (d+1) ti (.iface tx vx) (.iface ty vy)).run P w=.ok false w:=by
 simp[Op.equalIn,run_underlying hi,h]
theorem qm (b:Bool)(d:Nat){ti tp te:Φ}{ms:Array (String×Φ)}{i:η}{v:Θ}(w:Ξ)(hi:P.underlying ti=some (.interface ms))(hp:P.underlying tp=some (.pointer te))(nZ:P.info? tp=some i)(zL:i.comparable=true):(Instr.checkKey b (d+2) ti (.iface tp v)).run P w=.ok () w:=by
 simp[Instr.checkKey,run_underlying hi,run_underlying hp,typeInfo,nZ,zL]
end
theorem Dl:prog.underlying 91=some (.map 31 3):=by kernel_rfl
theorem Bi (h:HK):prog.underlying h.p=some (.pointer h.o):=by cases h<;>kernel_rfl
theorem Ho (h:HK):(prog.info? h.p).map (λi=>i.comparable)=some true:=by cases h<;>kernel_rfl
theorem P4 (h:HK):(prog.info? h.o).any (λi=>i.size != 0)=true:=by cases h<;>kernel_rfl
theorem Yr {w:Ξ}{h h':HK}{b b':Nat}(x:qB w h b)(y:qB w h' b'):(Op.equal 31 (kM h b) (kM h' b')).run prog w=.ok (decide (b=b')) w:=by
 obtain⟨ms,hi⟩:=mD;have nZ:=Ho h;cases hq:prog.info? h.p with
 |none=>rw[hq]at nZ;cases nZ
 |some i=>
  rw[hq]at nZ;have zL:i.comparable=true:=by simpa using nZ
  have Pb:=P4 h;cases zC:prog.info? h.o with
  |none=>rw[zC]at Pb;cases Pb
  |some j=>
   rw[zC]at Pb;have hsz:j.size≠0:=by simpa using Pb
   unfold kM ai Op.equal Op.maxDepth;by_cases e:b=b'
   ·subst e;obtain rfl:=x.same y;rw[run_equalIn_iface_ptr_same _ 9998 _ hi (Bi h) hq zL zC];simp
   ·by_cases eh:h=h'
    ·subst eh;obtain⟨c,hc⟩:=x;obtain⟨c',hc'⟩:=y;rw[run_equalIn_iface_ptr_other _ 9998 hi (Bi h) hq zL zC hsz (λq=>e (by cases q;rfl)) hc hc'];simp[e]
    ·have hp:h.p≠h'.p:=by cases h<;>cases h'<;>first|exact absurd rfl eh|(simp[HK.p])
     rw[mE 9999 w hi hp];simp[e]
def Dm (κ:Nat→HK)(E:Env)(met:List (Nat×Nat)):List (Θ×Θ):=met.reverse.map λp=>(kM (κ p.1) (E.α p.1),Γ Δ p.2)
theorem xp {α β:Type} [BEq α] [LawfulBEq α] (l:List (α×β))(i:α)(h:(l.map (·.1)).Nodup):l.reverse.lookup i=l.lookup i:=by
 induction l with
 |nil=>rfl
 |cons p l ih=>
  obtain⟨a,b⟩:=p;rw[zaC,List.nodup_cons]at h;rw[List.reverse_cons];rw[List.lookup_append,ih h.2];by_cases e:i=a
  ·subst e;have hn:l.lookup i=none:=by
    rw[List.lookup_eq_none_iff];intro q hq;have:q.1≠i:=λe=>h.1 (zbN.2 ⟨q,hq,e⟩);simpa using λe=>this e.symm
   simp[hn]
  ·have he:(i==a)=false:=by simpa using e
   simp only[List.lookup_cons,he];simp
theorem Bj {w:Ξ}{κ:Nat→HK}{E:Env}{i:Nat}:∀(es:List MapEntry) (l:List (Nat×Nat)) (n:Nat),es.map (λe=>(e.key,e.val))=l.map (λp=>(kM (κ p.1) (E.α p.1),Θ.int .i64 p.2))→qB w (κ i) (E.α i)→(∀p∈l,qB w (κ p.1) (E.α p.1))→(∀p∈l,E.α i=E.α p.1→i=p.1)→∃j,(Instr.findAsking 31 (kM (κ i) (E.α i)) es n).run prog w=.ok ((l.lookup i).map λk=>(j,Θ.int .i64 k)) w
 |[],[],n,_,_,_,_=>⟨0,by simp[Instr.findAsking]⟩
 |[],_::_,_,h,_,_,_=>by simp at h
 |_::_,[],_,h,_,_,_=>by simp at h
 |e::es,(m,v)::l,n,h,hi,hl,yo=>by
  simp only[zaC,List.cons.injEq,zah]at h;obtain⟨⟨h1,h2⟩,h3⟩:=h;unfold Instr.findAsking;rw[h1];have heq:=Yr hi (hl _ zbt);by_cases hn:i=m
  ·subst hn;exact⟨n,by simp[heq,h2]⟩
  ·have hne:E.α i≠E.α m:=λe=>hn (yo _ zbt e);obtain⟨j,hj⟩:=Bj es l (n+1) h3 hi (λp hp=>hl p (zbm _ hp)) (λp hp=>yo p (zbm _ hp));refine⟨j,?_⟩;have hb:(i==m)=false:=by simpa using hn
   simp[heq,hne,hj,List.lookup_cons,hb]
theorem xq (b:Bool)(h:HK)(c:Nat)(w:Ξ):(Instr.checkKey b 10000 31 (kM h c)).run prog w=.ok () w:=by
 obtain⟨ms,hi⟩:=mD;have nZ:=Ho h;cases hq:prog.info? h.p with
 |none=>rw[hq]at nZ;cases nZ
 |some i=>
  rw[hq]at nZ;have zL:i.comparable=true:=by simpa using nZ
  exact qm b 9998 w hi (Bi h) hq zL
section
variable {w:Ξ}{M:Nat}{κ:Nat→HK}{E:Env}{met:List (Nat×Nat)}
theorem Dn (h:mX w M (Dm κ E met))(i:Nat)(hi:qB w (κ i) (E.α i))(hl:∀p∈met,qB w (κ p.1) (E.α p.1))(yo:∀p∈met,E.α i=E.α p.1→i=p.1)(JB:(met.map (·.1)).Nodup):(Instr.lookup 91 (.map (some M)) (kM (κ i) (E.α i)) true).run prog w=.ok (.tuple #[Γ Δ (((met.lookup i).getD 0:Nat):Int),.bool (met.lookup i).isSome]) w:=by
 obtain⟨es,clock,h1,h2⟩:=h;obtain⟨ms,hint⟩:=mD;have hg:(getObj M).run prog w=.ok (.map es clock) w:=by simp[getObj,Sem.run,h1]
 obtain⟨j,hj⟩:=Bj (w:=w) (κ:=κ) (E:=E) (i:=i) es.toList met.reverse 0 h2 hi (λp hp=>hl p (List.mem_reverse.1 hp)) (λp hp=>yo p (List.mem_reverse.1 hp));rw[xp _ _ JB]at hj;unfold Instr.lookup Instr.findKey;simp only[zbb,zba Dl,zbc,hg,zbf,xq,zba hint];cases hes:es.toList with
 |nil=>
  rw[hes]at hj h2;have hm:met=[]:=by
   have:met.reverse=[]:=by
    have:=zal List.length h2;unfold Dm at this;simp at this;exact List.reverse_eq_nil_iff.2 (zch this.symm)
   simpa using this
  subst hm;simp[Ω]
 |cons e es'=>
  rw[hes]at hj;have hs:Ω (.interface ms) (kM (κ i) (E.α i)) (e::es') 0=none:=by simp[Ω,Instr.sameNow]
  simp only[hs,hj];cases hq:met.lookup i with
  |none=>simp
  |some v=>simp
theorem xr (h:mX w M (Dm κ E met))(i k:Nat)(hi:qB w (κ i) (E.α i))(hl:∀p∈met,qB w (κ p.1) (E.α p.1))(yo:∀p∈met,E.α i=E.α p.1→i=p.1)(JB:(met.map (·.1)).Nodup)(hn:met.lookup i=none):∃o,(Instr.mapUpdate 91 (.map (some M)) (kM (κ i) (E.α i)) (Γ Δ k)).run prog w=.ok () { w with heap:=w.heap.setIfInBounds M o }∧mX { w with heap:=w.heap.setIfInBounds M o } M (Dm κ E ((i,k)::met)):=by
 obtain⟨es,clock,h1,h2⟩:=h;obtain⟨ms,hint⟩:=mD;have hlt:M<w.heap.size:=(zag.1 h1).1;have hg:(getObj M).run prog w=.ok (.map es clock) w:=by simp[getObj,Sem.run,h1]
 obtain⟨j,hj⟩:=Bj (w:=w) (κ:=κ) (E:=E) (i:=i) es.toList met.reverse 0 h2 hi (λp hp=>hl p (List.mem_reverse.1 hp)) (λp hp=>yo p (List.mem_reverse.1 hp));rw[xp _ _ JB,hn]at hj;refine⟨.map (es.push { key:=kM (κ i) (E.α i),val:= Γ Δ k,born:=clock }) (clock+1),?_,es.push { key:=kM (κ i) (E.α i),val:= Γ Δ k,born:=clock },clock+1,?_,?_⟩
 ·unfold Instr.mapUpdate Instr.findKey;simp only[zbb,zba Dl,zbc,hg,xq,zba hint];cases hes:es.toList with
  |nil=>simp[Ω,setObj,Sem.run,h1]
  |cons e es'=>
   rw[hes]at hj;have hs:Ω (.interface ms) (kM (κ i) (E.α i)) (e::es') 0=none:=by simp[Ω,Instr.sameNow]
   simp only[hs,hj];simp[setObj,Sem.run,h1]
 ·show(w.heap.setIfInBounds M _)[M]?=_;rw[zbB hlt]
 ·rw[Array.toList_push,zbI,h2];simp[Dm]
end
section
variable {P:ζ}
theorem uW (w:Ξ)(base:Nat)(t ty e:Φ)(i:η)(z:Θ)(sz y:Nat)(ht:P.underlying t=some (.slice e))(hi:P.info? e=some i)(hz:i.zero=some z)
 (hsize:i.size=sz)(hby:i.bytes=y)(hsz:0<sz)(hy:y≤100)(hzs:z.cells.size=sz)
 (v:Θ)(n:Nat)(xs:List Θ)(hown:w.ownsRow base e sz v n xs)
 (a:Addr)(m c:Nat)(news:List Θ)(hm:m≠0)(hl:news.length=m*sz)(hnews:∀j u,news[j]?=some u→w.cell? (a.add j)=some u)(h1:∀u∈news,u.oneCell'=true)
 (hlen:n+m≤1000000)(hbase:base≤w.heap.size):
 ∃v' w',(Builtin.append_ #[t,t] ty #[v,.slice (some a) m c]).run P w=.ok v' w'∧w'.ownsRow base e sz v' (n+m) (xs++news)∧w.grownBy w' v.ownBlock∧
  (v'.ownBlock=v.ownBlock∨∃k,v'.ownBlock=some k∧w.heap.size≤k):=by
 have h63:n+m≤maxLen:=by unfold maxLen;omega
 have hbytes:(n+m)*y≤140737488355328:=zaj (Nat.mul_le_mul hlen hy) (by decide);obtain⟨v',w',hr,h2,h3,h4⟩:=run_append_own (P:=P) w base t ty e i z sz y ht hi hz hsize hby hzs hsz v n xs hown a m c news hl hnews h1 h63 hbytes hbase;refine⟨v',w',hr,h2,h3,?_⟩;have Mr:n+m≤9223372036854775807:=by omega
 rcases hown.2 with⟨rfl,rfl⟩|⟨g,cap,cur,rfl,hbg,hg,hnc,hcm,hcs,iX⟩
 ·have ug:=run_append_nil (P:=P) w t ty e i z ht hi hz a m c news (by rw[hsize];exact hl) hnews (by omega) (by omega) (by rw[hby];first|exact growslice_fits (by omega) (by simpa using hbytes)|exact zaj (Nat.mul_le_mul (show m≤1000000 by omega) hy) (by decide));rw[ug]at hr;injection hr with a b;rw[←a];exact Or.inr ⟨_,rfl,zab _⟩
 ·by_cases hroom:n+m≤cap
  ·have ug:=run_append_room (P:=P) w t ty e i ht hi g n cap cur hg a m c news (by rw[hsize];exact hl) hnews h1 hroom (by rw[hsize,hcs,hl,←Nat.add_mul];exact Nat.mul_le_mul hroom (zab _));rw[ug]at hr;injection hr with a b;rw[←a];exact Or.inl rfl
  ·have holds:∀j u,xs[j]?=some u→w.cell? ((⟨g,0,none⟩:Addr).add j)=some u:=hown.cells (g:=g) rfl;have ug:=run_append_grow (P:=P) w t ty e i z ht hi hz ⟨g,0,none⟩ n cap xs (by rw[hsize];exact hown.1) holds a m c news (by rw[hsize];exact hl) hnews (by omega) (by omega) (by rw[hby];exact growslice_fits (by omega) hbytes);rw[ug]at hr;injection hr with a b;rw[←a];exact Or.inr ⟨_,rfl,zab _⟩
theorem eO {ops:Array Oper}{o:Oper}{a:Act}{w:Ξ}{K:Act→Ξ→Prop}{Q:Exit→Act→Ξ→Prop}{X:Prop}
 (hg:o.guard=none)(s x:Operand)(t:Φ)(hop:o.op=Op.call { callee:=Callee.builtin Builtin.append,args:=#[s,x],argTypes:=#[t,t] })
 (base:Nat)(e:Φ)(i:η)(z:Θ)(sz y:Nat)(ht:P.underlying t=some (.slice e))(hi:P.info? e=some i)(hz:i.zero=some z)
 (hsize:i.size=sz)(hby:i.bytes=y)(hsz:0<sz)(hy:y≤100)(hzs:z.cells.size=sz)
 (v:Θ)(n:Nat)(xs:List Θ)(hs:a.eval s=v)(hown:w.ownsRow base e sz v n xs)
 (ad:Addr)(m c:Nat)(news:List Θ)(hx:a.eval x=.slice (some ad) m c)(hm:m≠0)(hl:news.length=m*sz)(hnews:∀j u,news[j]?=some u→w.cell? (ad.add j)=some u)(h1:∀u∈news,u.oneCell'=true)
 (hlen:n+m≤1000000)(hbase:base≤w.heap.size)
 (hK:∀v' w',w'.ownsRow base e sz v' (n+m) (xs++news)→w.grownBy w' v.ownBlock→(v'.ownBlock=v.ownBlock∨∃k,v'.ownBlock=some k∧w.heap.size≤k)→K (a.put o.dst v') w'):
 if Region.wanted o (yielded ops a.tmps)=true then Oper.wp P o a w K Q else X:=by
 have hw:Region.wanted o (yielded ops a.tmps)=true:=by simp[Region.wanted,hg]
 rw[zac hw];obtain⟨v',w',hr,h2,h3,h4⟩:=uW (P:=P) w base t o.type e i z sz y ht hi hz hsize hby hsz hy hzs v n xs hown ad m c news hm hl hnews h1 hlen hbase;unfold Oper.wp;simp only[execOp,hop,resolve,invoke,builtin,zbb,zbf,zbc,zbR,zaC,zbv,hs,hx,hr];exact hK v' w' h2 h3 h4
end
theorem tL:(prog.info? 50).map (λi=>(i.zero,i.size,i.bytes))=some (some (.agg #[Γ Δ 0,.string ⟨#[]⟩,Γ Δ 0,Γ Δ 0,.slice none 0 0]),5,64):=by kernel_rfl
theorem mI:prog.underlying 22=some (.slice 50):=by kernel_rfl
def jN (x:dF)(sv:Θ):List Θ:=[Γ Δ x.kind,.string ⟨⟨x.text⟩⟩,Γ Δ x.n,Γ Δ x.d,sv]
def kY:List dF→List Θ→List Θ
 |x::l,sv::ay=>jN x sv++kY l ay
 |_,_=>[]
def MI (w:Ξ)(base:Nat)(sv:Θ)(l:List Nat):Prop:=
 (sv=.slice none 0 0∧l=[])∨∃b,sv=.slice (some ⟨b,0,none⟩) l.length l.length∧base≤b∧w.heap[b]?=some (.cells (l.map λk:Nat=>Θ.int .i64 (k:Int)).toArray 3)
structure ei (w0 w:Ξ) (G M:Nat) (κ:Nat→HK) (E:Env) (g:jF) (ay:List Θ) (nv:Θ):Prop where
 gm:G≠M
 VG:w0.heap.size≤G
 VH:w0.heap.size≤M
 low:Below w0.heap.size w0 w
 blk:w.heap[G]?=some (.cells #[nv,.map (some M)] 93)
 row:w.ownsRow w0.heap.size 50 5 nv g.nodes.length (kY g.nodes ay)
 map:mX w M (Dm κ E g.met)
 len:ay.length=g.nodes.length
 subs:∀(j:Nat) x sv,g.nodes[j]?=some x→ay[j]?=some sv→MI w w0.heap.size sv x.subs
theorem rM:∀(l:List dF) (ay:List Θ) (x:dF) (sv:Θ),ay.length=l.length→kY (l++[x]) (ay++[sv])=kY l ay++jN x sv
 |[],[],x,sv,_=>by simp[kY]
 |[],_::_,_,_,h=>by simp at h
 |_::_,[],_,_,h=>by simp at h
 |y::l,s::ay,x,sv,h=>by
  have:=rM l ay x sv (by simpa using h);simp only[zaV,kY,this,List.append_assoc]
section
variable {w0 w:Ξ}{G M:Nat}{κ:Nat→HK}{E:Env}{g:jF}{ay:List Θ}{nv:Θ}
def n9 (w:Ξ)(ay ie:List Θ):Prop:=∀sv∈ie,∀b,sv.ownBlock=some b→(∃sv0∈ay,sv0.ownBlock=some b)∨w.heap.size≤b
def Grown (w0 w w':Ξ)(G M:Nat)(κ:Nat→HK)(E:Env)(ay:List Θ)(nv:Θ)(g':jF):Prop:=
 ∃ie lM,ei w0 w' G M κ E g' ie lM∧jL G M nv.ownBlock w w'∧(lM.ownBlock=nv.ownBlock∨∃b,lM.ownBlock=some b∧w.heap.size≤b)∧n9 w ay ie
def km (x:dF):Θ:= .agg #[Γ Δ x.kind,.string ⟨⟨x.text⟩⟩,Γ Δ x.n,Γ Δ x.d,.slice none 0 0]
theorem ei.fA (h:ei w0 w G M κ E g ay nv)(b:Nat)(o:Obj)(hb:w.heap[b]?=some o)(ho:∀cur,o≠.cells cur 50):some b≠nv.ownBlock:=by
 intro e;rcases h.row.2 with⟨rfl,_⟩|⟨c,cap,cur,rfl,_,hg,_⟩
 ·cases e
 ·have:b=c:=by cases e;rfl
  rw[this,hg]at hb;exact ho cur (by cases hb;rfl)
theorem JU (h:ei w0 w G M κ E g ay nv)(x:dF)(hx:x.subs=[]){w1 w4:Ξ}{v':Θ}(hb1:Below w.heap.size w w1)(hrow:w4.ownsRow w0.heap.size 50 5 v' (g.nodes.length+1) (kY g.nodes ay++jN x (.slice none 0 0)))(hg:w1.grownBy w4 nv.ownBlock)
 (cG:v'.ownBlock=nv.ownBlock∨∃k,v'.ownBlock=some k∧w1.heap.size≤k):
 w4.heap[G]?=some (.cells #[nv,.map (some M)] 93)∧Grown w0 w (w4.setCell ⟨G,0,none⟩ v') G M κ E ay nv (g.add x):=by
 have hs1:=hb1.size;have KD:=hg.size;have hb:∀b,b<w.heap.size→some b≠nv.ownBlock→w4.heap[b]?=w.heap[b]?:=λb h1 h2=>(hg.block b (by omega) h2).trans (hb1.block b h1);have hG:G<w.heap.size:=(zag.1 h.blk).1;obtain⟨es,c,hm,TU⟩:=h.map;have hM:M<w.heap.size:=(zag.1 hm).1;have qG:=h.fA G _ h.blk (λcur e=>by simp at e);have qM:=h.fA M _ hm (λcur e=>by simp at e);have h4:w4.heap[G]?=some (.cells #[nv,.map (some M)] 93):=(hb G hG qG).trans h.blk;have ho:∀b,b≠G→(w4.setCell ⟨G,0,none⟩ v').heap[b]?=w4.heap[b]?:=λb hb=>zay _ _ _ _ hb;have zU:∀b,nv.ownBlock=some b→w0.heap.size≤b:=λb hb=>(h.row.lt b hb).1;refine⟨h4,ay++[.slice none 0 0],v',⟨h.gm,h.VG,h.VH,⟨hg.os.trans (hb1.os.trans h.low.os),hg.tape.trans (hb1.tape.trans h.low.tape),hg.output.trans (hb1.output.trans h.low.output),?_,λb b1=>?_⟩,bk h4 0 v',?_,?_,?_,λj y sv hy ml=>?_⟩,⟨hg.os.trans hb1.os,hg.tape.trans hb1.tape,hg.output.trans hb1.output,?_,λb b1 b2 _ b4=>(ho b b2).trans (hb b b1 b4)⟩,cG.imp id (λ⟨k,k1,k2⟩=>⟨k,k1,by omega⟩),λsv ml b hb=>?_⟩
 ·have:=h.low.size;simp;omega
 ·have:=h.VG;have hl:=h.low.size;rw[ho b (by omega),hb b (by omega) (λe=>by have:=zU b e.symm;omega)];exact h.low.block b b1
 ·have e:kY (g.add x).nodes (ay++[.slice none 0 0])=kY g.nodes ay++jN x (.slice none 0 0):=rM _ _ _ _ h.len;have e2:(g.add x).nodes.length=g.nodes.length+1:=by simp[jF.add]
  rw[e,e2];refine⟨hrow.1,hrow.2.imp id ?_⟩;rintro ⟨b,cp,cur,q1,q2,q3,q4⟩;exact⟨b,cp,cur,q1,q2,(ho b (λe=>by rw[e,h4]at q3;simp at q3)).trans q3,q4⟩
 ·exact⟨es,c,(ho M (λe=>h.gm e.symm)).trans ((hb M hM qM).trans hm),TU⟩
 ·simp[jF.add,h.len]
 ·simp only[jF.add]at hy;rcases zar j g.nodes.length with hj|hj
  ·rw[zaS hj]at hy;rw[zaS (by rw[h.len];exact hj)]at ml;rcases h.subs j y sv hy ml with q|⟨b,q1,q2,q3⟩
   ·exact .inl q
   ·refine .inr ⟨b,q1,q2,?_⟩;rw[ho b (λe=>by rw[e,h.blk]at q3;simp at q3),hb b (zag.1 q3).1 (h.fA b _ q3 (λcur e=>by simp at e))];exact q3
  ·have ej:j=g.nodes.length:=by
    have:=(zaD.1 hy).1;simp at this;omega
   subst ej;rw[zaZ (zab _)]at hy;rw[zaZ (by rw[h.len];exact zab _),h.len]at ml;simp at hy ml;subst hy ml;exact .inl ⟨rfl,hx⟩
 ·simp;omega
 ·rcases zaQ.1 ml with h1|h1
  ·exact .inl ⟨sv,h1,hb⟩
  ·simp at h1;subst h1;cases hb
theorem Qh (h:ei w0 w G M κ E g ay nv)(x:dF)(hx:x.subs=[]){w1 w4:Ξ}{v':Θ}(hb1:Below w.heap.size w w1)(hrow:w4.ownsRow w0.heap.size 50 5 v' (g.nodes.length+1) (kY g.nodes ay++jN x (.slice none 0 0)))(hg:w1.grownBy w4 nv.ownBlock)
 (cG:v'.ownBlock=nv.ownBlock∨∃k,v'.ownBlock=some k∧w1.heap.size≤k):
 ∃a1 c1,v'=.slice a1 (g.nodes.length+1) c1∧w4.cell? ⟨G,0,none⟩=some nv∧w4.frozen? ⟨G,0,none⟩=false∧Hid (Grown w0 w (w4.setCell ⟨G,0,none⟩ v') G M κ E ay nv (g.add x)):=by
 obtain⟨h4,hgr⟩:=JU h x hx hb1 hrow hg cG;obtain⟨a1,c1,e⟩:=aw hrow;exact⟨a1,c1,e,by simp[Ξ.cell?,h4],by simp[Ξ.frozen?,h4],hgr⟩
theorem zV {W:Ξ}{b:Nat}{x:dF}{t:Φ}(h:W.heap[b]?=some (.cells #[Γ Δ x.kind,.string ⟨⟨x.text⟩⟩,Γ Δ x.n,Γ Δ x.d,.slice none 0 0] t))(j:Nat)(u:Θ)(hu:(jN x (.slice none 0 0))[j]?=some u):W.cell? ((⟨b,0,none⟩:Addr).add j)=some u:=by
 match j,hu with
 |0,hu=>simpa[Ξ.cell?,ι,h,jN]using hu
 |1,hu=>simpa[Ξ.cell?,ι,h,jN]using hu
 |2,hu=>simpa[Ξ.cell?,ι,h,jN]using hu
 |3,hu=>simpa[Ξ.cell?,ι,h,jN]using hu
 |4,hu=>simpa[Ξ.cell?,ι,h,jN]using hu
 |j+5,hu=>simp[jN]at hu
theorem kO (h:ei w0 w G M κ E g ay nv)(x:dF)(hx:x.subs=[])(hlen:g.nodes.length+1≤1000000):θ prog 57 #[ai G,km x] w λe w'=>e=.returned (Γ Δ g.nodes.length)∧Grown w0 w w' G M κ E ay nv (g.add x):=by
 have mixed:prog.follows Departure.mixedOrders=true:=by kernel_rfl
 have hG:G<w.heap.size:=(zag.1 h.blk).1;obtain⟨a0,c0,rfl⟩:=aw h.row;obtain⟨g0,g1⟩:w.cell? ⟨G,0,none⟩=some (.slice a0 g.nodes.length c0)∧w.cell? ⟨G,1,none⟩=some (.map (some M)):=by
  constructor<;>simp[Ξ.cell?,h.blk]
 obtain⟨i0,hi,hz0,hz1,hz2⟩:=info_parts tL;have HG:Hid _:=h;have e1:¬G=w.heap.size:=by omega
 have e2:¬G=w.heap.size+1:=by omega
 have e3:G<w.heap.size+1:=by omega
 have hb1:Below w.heap.size w (((w.alloc (.cells #[Γ Δ x.kind,.string ⟨⟨x.text⟩⟩,Γ Δ x.n,Γ Δ x.d,.slice none 0 0] 50)).alloc (.cells #[Γ Δ x.kind,.string ⟨⟨x.text⟩⟩,Γ Δ x.n,Γ Δ x.d,.slice none 0 0] 50)).drew):=(((zad _ _).alloc (zab _) _).alloc (by simp) _).drew;have zN:Hid _:=hb1;have ig:Hid ((((w.alloc (.cells #[Γ Δ x.kind,.string ⟨⟨x.text⟩⟩,Γ Δ x.n,Γ Δ x.d,.slice none 0 0] 50)).alloc (.cells #[Γ Δ x.kind,.string ⟨⟨x.text⟩⟩,Γ Δ x.n,Γ Δ x.d,.slice none 0 0] 50)).drew).ownsRow w0.heap.size 50 5 (.slice a0 g.nodes.length c0) g.nodes.length (kY g.nodes ay)):=aT h.row (zab _) λb _ hb=>hb1.block b hb;have rN:Hid (∀(j:Nat) u,(jN x (.slice none 0 0))[j]?=some u→(((w.alloc (.cells #[Γ Δ x.kind,.string ⟨⟨x.text⟩⟩,Γ Δ x.n,Γ Δ x.d,.slice none 0 0] 50)).alloc (.cells #[Γ Δ x.kind,.string ⟨⟨x.text⟩⟩,Γ Δ x.n,Γ Δ x.d,.slice none 0 0] 50)).drew).cell? ((⟨w.heap.size+1,0,none⟩:Addr).add j)=some u):=zV (dJ w _ _);have Dz:Hid (∀u∈jN x (.slice none 0 0),u.oneCell'=true):=λu hu=>by
  simp[jN]at hu;rcases hu with rfl|rfl|rfl|rfl|rfl<;>rfl
 have uy:Hid (w0.heap.size≤(((w.alloc (.cells #[Γ Δ x.kind,.string ⟨⟨x.text⟩⟩,Γ Δ x.n,Γ Δ x.d,.slice none 0 0] 50)).alloc (.cells #[Γ Δ x.kind,.string ⟨⟨x.text⟩⟩,Γ Δ x.n,Γ Δ x.d,.slice none 0 0] 50)).drew).heap.size):=zaj h.low.size hb1.size;clear h hb1;unfold ai km;go_enter func57,ntmps57;go_wp2_with fail
 go_region_law (refine eO rfl (.tmp 9) (.tmp 11) 22 rfl w0.heap.size 50 i0 _ 5 64 mI hi hz0 hz1 hz2 (by decide) (by decide) rfl (.slice a0 g.nodes.length c0) g.nodes.length (kY g.nodes ay) rfl ig.out ⟨w.heap.size+1,0,none⟩ 1 1 (jN x (.slice none 0 0)) rfl (by decide) rfl rN.out Dz.out hlen uy.out ?_;intro v' w4 hown' hgrow cG;obtain⟨a1,c1,rfl,c4,f4,EB⟩:=Qh HG.out x hx zN.out hown' hgrow cG;clear hown' hgrow cG)
 all_goals
  go_wp2_with fail;go_ret;exact⟨rfl,EB.out⟩
end
end Go.Proofs.YtlhimdjkkiflhaaGreat
namespace Go.Loop
open Go.Proofs.Tryz
def pB (root:Dt):Dt→Bool
 |.ask m=>(aJ m root).isSome
 |.put _ d=>pB root d
 |.pair _ a b=>pB root a&&pB root b
 |.vec _ l=>pB root l
 |.bD a l=>pB root a&&pB root l
 |_=>true
theorem kP {root:Dt}{m:Int}:∀{r d:Dt},pB root r=true→aJ m r=some d→pB root d=true
 |.put n x,d,h,hl=>by
  unfold aJ at hl;split at hl
  ·cases hl;exact h
  ·exact kP (r:=x) h hl
 |.pair _ a b,d,h,hl=>by
  simp only[pB,zai]at h;unfold aJ at hl;cases hq:aJ m a with
  |some x=>rw[hq]at hl;cases hl;exact kP h.1 hq
  |none=>rw[hq]at hl;exact kP h.2 hl
 |.vec _ l,d,h,hl=>by
  unfold aJ at hl;exact kP (r:=l) h hl
 |.bD a l,d,h,hl=>by
  simp only[pB,zai]at h;unfold aJ at hl;cases hq:aJ m a with
  |some x=>rw[hq]at hl;cases hl;exact kP h.1 hq
  |none=>rw[hq]at hl;exact kP h.2 hl
 |.nil,d,h,hl=>by simp[aJ]at hl
 |.sym _,d,h,hl=>by simp[aJ]at hl
 |.num _ _,d,h,hl=>by simp[aJ]at hl
 |.dI _,d,h,hl=>by simp[aJ]at hl
 |.oY _,d,h,hl=>by simp[aJ]at hl
 |.txt _ _,d,h,hl=>by simp[aJ]at hl
 |.ee,d,h,hl=>by simp[aJ]at hl
 |.ask _,d,h,hl=>by simp[aJ]at hl
theorem gX {root:Dt}{d:Dt}(h:d.hd=true)(f:Nat):bY root f d=d:=by
 cases f with
 |zero=>rfl
 |succ f=>cases d<;>first|rfl|(simp[Dt.hd]at h)
theorem F3 {Q:Nat→Prop}(h:∃n,Q n):∃n,Q n∧∀m,Q m→n≤m:=by
 obtain⟨n,hn⟩:=h
 induction n using Nat.strongRecOn with
 |_ n ih=>
  by_cases e:∃m,m<n∧Q m
  ·obtain⟨m,h1,h2⟩:=e;exact ih m h1 h2
  ·exact⟨n,hn,λm hm=>Nat.le_of_not_lt λhlt=>e ⟨m,hlt,hm⟩⟩
end Go.Loop
namespace Go.Proofs.YtlhimdjkkiflhaaGreat
open Go.Proofs.Tryz
open Go.RowKit Go.Loop
section
variable {lo K:Nat}{L:List Int}{w:Ξ}{E:Env}
mutual
theorem bX.bT {m:Int}:∀{r d:Dt} {v:Θ},bX lo K L w E r v→aJ m r=some d→∃v',w.heap[E.bT m]?=some (.cells #[v'] 157)∧bX lo K L w E d v'
 |.put n x,d,v,h,hl=>by
  unfold bX at h;unfold aJ at hl;split at hl
  ·rename_i e;subst e;cases hl;exact⟨v,h.2.2.1,h.2.2.2⟩
  ·exact bX.bT h.2.2.2 hl
 |.pair _ a b,d,v,h,hl=>by
  unfold bX at h;obtain⟨_,_,_,va,vb,_,h1,h2⟩:=h;unfold aJ at hl;cases hq:aJ m a with
  |some x=>rw[hq]at hl;cases hl;exact bX.bT h1 hq
  |none=>rw[hq]at hl;exact bX.bT h2 hl
 |.vec _ l,d,v,h,hl=>by
  unfold bX at h;obtain⟨_,_,_,sl,vs,_,_,h1⟩:=h;unfold aJ at hl;exact cT.bT h1 hl
 |.bD a l,d,v,h,hl=>by unfold bX at h;exact h.elim
 |.nil,d,v,h,hl=>by simp[aJ]at hl
 |.sym _,d,v,h,hl=>by simp[aJ]at hl
 |.num _ _,d,v,h,hl=>by simp[aJ]at hl
 |.dI _,d,v,h,hl=>by simp[aJ]at hl
 |.oY _,d,v,h,hl=>by simp[aJ]at hl
 |.txt _ _,d,v,h,hl=>by simp[aJ]at hl
 |.ee,d,v,h,hl=>by simp[aJ]at hl
 |.ask _,d,v,h,hl=>by simp[aJ]at hl
theorem cT.bT {m:Int}:∀{r d:Dt} {vs:List Θ},cT lo K L w E r vs→aJ m r=some d→∃v',w.heap[E.bT m]?=some (.cells #[v'] 157)∧bX lo K L w E d v'
 |.bD a l,d,vs,h,hl=>by
  unfold cT at h;obtain⟨v,r,_,h1,h2⟩:=h;unfold aJ at hl;cases hq:aJ m a with
  |some x=>rw[hq]at hl;cases hl;exact bX.bT h1 hq
  |none=>rw[hq]at hl;exact cT.bT h2 hl
 |.ee,d,v,h,hl=>by simp[aJ]at hl
 |.put _ _,d,v,h,hl=>by unfold cT at h;exact h.elim
 |.pair _ _ _,d,v,h,hl=>by unfold cT at h;exact h.elim
 |.vec _ _,d,v,h,hl=>by unfold cT at h;exact h.elim
 |.nil,d,v,h,hl=>by simp[aJ]at hl
 |.sym _,d,v,h,hl=>by simp[aJ]at hl
 |.num _ _,d,v,h,hl=>by simp[aJ]at hl
 |.dI _,d,v,h,hl=>by simp[aJ]at hl
 |.oY _,d,v,h,hl=>by simp[aJ]at hl
 |.txt _ _,d,v,h,hl=>by simp[aJ]at hl
 |.ask _,d,v,h,hl=>by simp[aJ]at hl
end
section
variable {P:ζ}
def jW (P:ζ)(A:Φ):Bool:=(P.underlying A).any λd=>match d with|.interface _=>false|_=>true
theorem dB {A x:Φ}{v:Θ}(w:Ξ)(hu:jW P A=true):(Λ (.iface A v) x A true).run P w=.ok (.tuple #[v,.bool true]) w:=by
 unfold jW at hu;cases hq:P.underlying A with
 |none=>rw[hq]at hu;cases hu
 |some d=>
  rw[hq]at hu;cases d<;>first|(simp at hu;done)|simp[Λ,run_underlying hq]
theorem ak {t A x:Φ}{v z:Θ}(w:Ξ)(hu:jW P A=true)(hz:(P.info? A).bind (·.zero)=some z)(h:t≠A):(Λ (.iface t v) x A true).run P w=.ok (.tuple #[z,.bool false]) w:=by
 unfold jW at hu;cases hi:P.info? A with
 |none=>rw[hi]at hz;cases hz
 |some i=>
  rw[hi]at hz;have hz':i.zero=some z:=hz;cases hq:P.underlying A with
  |none=>rw[hq]at hu;cases hu
  |some d=>
   rw[hq]at hu;cases d<;>first|(simp at hu;done)|simp[Λ,run_underlying hq,h,zeroValue,typeInfo,hi,hz']
end
theorem iJ:jW prog 154=true:=by kernel_rfl
theorem lz:(prog.info? 154).bind (·.zero)=some (.pointer none):=by kernel_rfl
def pW (lo K:Nat)(L:List Int)(w:Ξ)(E:Env)(root t:Dt)(f:Nat)(v:Θ):Prop:=∃d,bX lo K L w E d v∧bY root f d=t∧pB root d=true
theorem JV {w0:Ξ}(eQ:Below w0.heap.size w0 w){root:Dt}{rv:Θ}(Ht:bX lo K L w0 E root rv)(uV:pB root root=true)(f:Nat)(d:Dt)(v:Θ)(hd:bX lo K L w0 E d v)(ha:pB root d=true)(hh:(bY root f d).hd=true):θ prog 54 #[v] w λe w'=>∃v',e=.returned v'∧w'=w∧bX lo K L w0 E (bY root f d) v':=by
 generalize ht:bY root f d=t at *;obtain⟨μ,hμ⟩:∃μ:Θ→Nat,∀x,(∃n,pW lo K L w0 E root t n x)→pW lo K L w0 E root t (μ x) x∧∀m,pW lo K L w0 E root t m x→μ x≤m:=by
  have hex:∀x,∃k,(∃n,pW lo K L w0 E root t n x)→pW lo K L w0 E root t k x∧∀m,pW lo K L w0 E root t m x→k≤m:=λx=>by
   by_cases e:∃n,pW lo K L w0 E root t n x
   ·obtain⟨n,h1⟩:=F3 e;exact⟨n,λ_=>h1⟩
   ·exact⟨0,λh=>absurd h e⟩
  exact⟨λx=>Classical.choose (hex x),λx=>zaL (hex x)⟩
 have H0:Hid (∃n,pW lo K L w0 E root t n v):=⟨f,d,hd,ht,ha⟩;have HM:Hid _:=hμ;have HRT:Hid _:=Ht;have HAS:Hid _:=uV;have HLO:Hid _:=eQ;clear eQ hμ Ht uV hd ht ha d f;go_enter func54,ntmps54;go_wp2_with fail;go_loopw [0] (λsv wr=>wr=w∧Hid (∃n,pW lo K L w0 E root t n sv)) (λsv _=>μ sv)
 case atStart=>exact⟨rfl,H0.out⟩
 case round=>
  obtain⟨rfl,HX⟩:=hrel;obtain⟨⟨d,hd,hm,ha⟩,yO⟩:=HM.out _ HX.out;cases d with
  |ee=>unfold bX at hd;exact hd.elim
  |bD a l=>unfold bX at hd;exact hd.elim
  |put n x=>
   exfalso;cases hf:μ u0 with
   |zero=>rw[hf]at hm;have:(Dt.put n x).hd=true:=by rw[←hh,←hm];rfl
          simp[Dt.hd]at this
   |succ k=>
    rw[hf]at hm;unfold bX at hd;have:=yO k ⟨x,hd.2.2.2,hm,ha⟩;omega
  |ask m=>
   cases hf:μ u0 with
   |zero=>rw[hf]at hm;have:(Dt.ask m).hd=true:=by rw[←hh,←hm];rfl
          simp[Dt.hd]at this
   |succ k=>
    rw[hf]at hm;have ha':(aJ m root).isSome=true:=ha;obtain⟨d1,yL⟩:=zbP.1 ha';obtain⟨v1,X3,Sg⟩:=bX.bT HRT.out yL
    have Wv:bY root k d1=t:=by have e:bY root (k+1) (.ask m)=bY root k ((aJ m root).getD .nil):=rfl
                               rw[e,yL]at hm;exact hm
    have HON:Hid (pW lo K L w0 E root t k v1):=⟨d1,Sg,Wv,kP HAS.out yL⟩;have hlt:=(HM.out v1 ⟨k,HON.out⟩).2 k HON.out;unfold bX at hd;obtain⟨-,rfl⟩:=hd;have hv2:=(HLO.out.block _ (zag.1 X3).1).trans X3;have c0:wr.cell? ⟨E.bT m,0,none⟩=some v1:=by simp[Ξ.cell?,hv2]
    have Sh:(Λ (.iface 154 (.pointer (some ⟨E.bT m,0,none⟩))) 31 154 true).run prog wr=_:=dB wr iJ;clear hm yO ha Sg Wv X3 hv2 ha' yL;unfold ai at *;go_wp2_with fail;exact⟨⟨trivial,⟨k,HON.out⟩⟩,by rw[hf];omega⟩
  |nil=>
   have HD:Hid (t=.nil):=by show _=_;rw[←hm];exact gX rfl _
   unfold bX at hd;subst hd;have Sh:(Λ (.iface 188 (.agg #[])) 31 154 true).run prog wr=_:=ak wr iJ lz (by decide);clear hm yO ha;go_wp2_with fail;go_ret;exact⟨_,rfl,rfl,by rw[HD.out];unfold bX;rfl⟩
  |sym s=>
   have HD:Hid (t=.sym s):=by show _=_;rw[←hm];exact gX rfl _
   unfold bX at hd;subst hd;have Sh:(Λ (.iface 133 (.agg #[.string ⟨⟨s⟩⟩])) 31 154 true).run prog wr=_:=ak wr iJ lz (by decide);clear hm yO ha;go_wp2_with fail;go_ret;exact⟨_,rfl,rfl,by rw[HD.out];unfold bX;rfl⟩
  |num a b=>
   have HD:Hid (t=.num a b):=by show _=_;rw[←hm];exact gX rfl _
   unfold bX at hd;subst hd;have Sh:(Λ (.iface 136 (.agg #[Γ Δ a,Γ Δ b])) 31 154 true).run prog wr=_:=ak wr iJ lz (by decide);clear hm yO ha;go_wp2_with fail;go_ret;exact⟨_,rfl,rfl,by rw[HD.out];unfold bX;rfl⟩
  |dI a=>
   have HD:Hid (t=.dI a):=by show _=_;rw[←hm];exact gX rfl _
   unfold bX at hd;subst hd;have Sh:(Λ (.iface 138 (.agg #[Γ Δ a])) 31 154 true).run prog wr=_:=ak wr iJ lz (by decide);clear hm yO ha;go_wp2_with fail;go_ret;exact⟨_,rfl,rfl,by rw[HD.out];unfold bX;rfl⟩
  |oY a=>
   have HD:Hid (t=.oY a):=by show _=_;rw[←hm];exact gX rfl _
   unfold bX at hd;subst hd;have Sh:(Λ (.iface 140 (.agg #[Γ Δ a])) 31 154 true).run prog wr=_:=ak wr iJ lz (by decide);clear hm yO ha;go_wp2_with fail;go_ret;exact⟨_,rfl,rfl,by rw[HD.out];unfold bX;rfl⟩
  |txt i s=>
   have HD:Hid (t=.txt i s):=by show _=_;rw[←hm];exact gX rfl _
   unfold bX at hd;have JI:Hid _:=hd;obtain⟨-,-,rfl,-⟩:=hd;have Sh:(Λ (.iface 130 (.pointer (some ⟨E.α i,0,none⟩))) 31 154 true).run prog wr=_:=ak wr iJ lz (by decide);unfold ai at *;clear hm yO ha;go_wp2_with fail;go_ret;exact⟨_,rfl,rfl,by rw[HD.out];unfold bX;exact⟨JI.out.1,JI.out.2.1,rfl,JI.out.2.2.2⟩⟩
  |pair i a b=>
   have HD:Hid (t=.pair i a b):=by show _=_;rw[←hm];exact gX rfl _
   unfold bX at hd;have JI:Hid _:=hd;obtain⟨-,-,rfl,-⟩:=hd;have Sh:(Λ (.iface 122 (.pointer (some ⟨E.α i,0,none⟩))) 31 154 true).run prog wr=_:=ak wr iJ lz (by decide);unfold ai at *;clear hm yO ha;go_wp2_with fail;go_ret;exact⟨_,rfl,rfl,by rw[HD.out];unfold bX;exact⟨JI.out.1,JI.out.2.1,rfl,JI.out.2.2.2⟩⟩
  |vec i l=>
   have HD:Hid (t=.vec i l):=by show _=_;rw[←hm];exact gX rfl _
   unfold bX at hd;have JI:Hid _:=hd;obtain⟨-,-,rfl,-⟩:=hd;have Sh:(Λ (.iface 127 (.pointer (some ⟨E.α i,0,none⟩))) 31 154 true).run prog wr=_:=ak wr iJ lz (by decide);unfold ai at *;clear hm yO ha;go_wp2_with fail;go_ret;exact⟨_,rfl,rfl,by rw[HD.out];unfold bX;exact⟨JI.out.1,JI.out.2.1,rfl,JI.out.2.2.2⟩⟩
end
structure gG (w0:Ξ) (K:Nat) (κ:Nat→HK) (E:Env) (met:List (Nat×Nat)):Prop where
 at_:∀p∈met,p.1<K∧qB w0 (κ p.1) (E.α p.1)
 nd:(met.map (·.1)).Nodup
section
variable {w0 w:Ξ}{G M K:Nat}{κ:Nat→HK}{E:Env}{g:jF}{ay:List Θ}{nv:Θ}
theorem qB.low {h:HK}{b:Nat}(x:qB w0 h b)(hb:Below w0.heap.size w0 w):qB w h b:=by
 obtain⟨c,hc⟩:=x;exact⟨c,(hb.block b (zag.1 hc).1).trans hc⟩
theorem Grown.refl (h:ei w0 w G M κ E g ay nv):Grown w0 w w G M κ E ay nv g:=⟨ay,nv,h,(Kp.refl G M w).a _,.inl rfl,λsv hs _ hb=> .inl ⟨sv,hs,hb⟩⟩
theorem ei.look (h:ei w0 w G M κ E g ay nv)(hm:gG w0 K κ E g.met)(xw:∀i j,i<K→j<K→E.α i=E.α j→i=j){i:Nat}(hi:i<K)(hk:qB w0 (κ i) (E.α i)):(Instr.lookup 91 (.map (some M)) (kM (κ i) (E.α i)) true).run prog w=.ok (.tuple #[Γ Δ (((g.met.lookup i).getD 0:Nat):Int),.bool (g.met.lookup i).isSome]) w:=
 Dn h.map i (hk.low h.low) (λp hp=>(hm.at_ p hp).2.low h.low) (λp hp e=>xw i p.1 hi (hm.at_ p hp).1 e) hm.nd
theorem ei.met (h:ei w0 w G M κ E g ay nv){i k:Nat}{o:Obj}(hm:mX { w with heap:=w.heap.setIfInBounds M o } M (Dm κ E ((i,k)::g.met))):ei w0 { w with heap:=w.heap.setIfInBounds M o } G M κ E { g with met:=(i,k)::g.met } ay nv∧jL G M nv.ownBlock w { w with heap:=w.heap.setIfInBounds M o }:=by
 have ho:∀b,b≠M→(w.heap.setIfInBounds M o)[b]?=w.heap[b]?:=λb hb=>zax (λe=>hb e.symm);obtain⟨es,c,hM,-⟩:=h.map;refine⟨⟨h.gm,h.VG,h.VH,⟨h.low.os,h.low.tape,h.low.output,?_,λb hb=>?_⟩,(ho G h.gm).trans h.blk,?_,hm,h.len,λj x sv hx ml=>?_⟩,⟨rfl,rfl,rfl,by simp,λb _ _ b3 _=>ho b b3⟩⟩
 ·have:=h.low.size;simpa using this
 ·have:=h.VH;exact(ho b (by omega)).trans (h.low.block b hb)
 ·refine⟨h.row.1,h.row.2.imp id ?_⟩;rintro ⟨b,cp,cur,q1,q2,q3,q4⟩;exact⟨b,cp,cur,q1,q2,(ho b (λe=>by rw[e,hM]at q3;cases q3)).trans q3,q4⟩
 ·rcases h.subs j x sv hx ml with q|⟨b,q1,q2,q3⟩
  ·exact .inl q
  ·exact .inr ⟨b,q1,q2,(ho b (λe=>by rw[e,hM]at q3;cases q3)).trans q3⟩
theorem Grown.met {w1:Ξ}{g1:jF}(h:Grown w0 w w1 G M κ E ay nv g1){i k:Nat}{o:Obj}(hm:mX { w1 with heap:=w1.heap.setIfInBounds M o } M (Dm κ E ((i,k)::g1.met))):Grown w0 w { w1 with heap:=w1.heap.setIfInBounds M o } G M κ E ay nv { g1 with met:=(i,k)::g1.met }:=by
 obtain⟨ie,lM,h1,h2,h3,h4⟩:=h;obtain⟨k1,k2⟩:=h1.met hm;exact⟨ie,lM,k1,h2.put k2 h3,h3,h4⟩
theorem MJ (h:ei w0 w G M κ E g ay nv)(hm:gG w0 K κ E g.met)(xw:∀i j,i<K→j<K→E.α i=E.α j→i=j){i:Nat}{s:List UInt8}(hi:i<K)(hk:κ i=.txt)(hx:w0.heap[E.α i]?=some (.cells #[.string ⟨⟨s⟩⟩] 159))(hlen:g.nodes.length+1≤1000000):θ prog 56 #[ai G,ai (E.α i)] w λe w'=>∃k g',(match g.met.lookup i with|some k=>some (k,g)|none=>some (g.nodes.length,⟨g.nodes++[⟨3,s,0,0,[]⟩],(i,g.nodes.length)::g.met⟩))=some (k,g')∧e=.returned (Γ Δ k)∧Grown w0 w w' G M κ E ay nv g':=by
 have hat:qB w0 (κ i) (E.α i):=by rw[hk];exact⟨_,hx⟩
 have cJ:=h.look hm xw hi hat
 have hG:G<w.heap.size:=(zag.1 h.blk).1;obtain⟨g0,g1⟩:w.cell? ⟨G,0,none⟩=some nv∧w.cell? ⟨G,1,none⟩=some (.map (some M)):=by
  constructor<;>simp[Ξ.cell?,h.blk]
 have hx1:=(h.low.block (E.α i) (zag.1 hx).1).trans hx;have x0:w.cell? ⟨E.α i,0,none⟩=some (.string ⟨⟨s⟩⟩):=by simp[Ξ.cell?,hx1]
 cases hq:g.met.lookup i with
 |some k=>
  rw[hq,hk]at cJ;simp only[zbw,Option.isSome_some]at cJ;have HG:Hid _:=Grown.refl h;clear h hm hat hx hx1;unfold kM ai at cJ;simp only[HK.p]at cJ;unfold ai;go_enter func56,ntmps56;go_wp2_with fail;go_ret;exact⟨k,g,rfl,rfl,HG.out⟩
 |none=>
  rw[hq,hk]at cJ;simp only[zbH,Option.isSome_none]at cJ;have HC:Hid _:=kO h ⟨3,s,0,0,[]⟩ rfl hlen;have HM:Hid _:=hm;have TV:Hid _:=hat
  have HI:Hid _:=xw;clear h hm hat hx hx1 xw;unfold kM ai at cJ;simp only[HK.p]at cJ;unfold ai km at HC;simp only at HC;unfold ai;go_enter func56,ntmps56;go_wp2_with fail;refine zae HC.out ?_;rintro e w1 ⟨rfl,hgr⟩;obtain⟨cA,fU,h1,-,-,-⟩:=id hgr;have JW:(g.add ⟨3,s,0,0,[]⟩).met=g.met:=rfl;obtain⟨o,hput,hmap⟩:=xr h1.map i g.nodes.length (qB.low TV.out h1.low) (λp hp=>qB.low (HM.out.at_ p hp).2 h1.low) (λp hp e=>HI.out i p.1 hi (HM.out.at_ p hp).1 e) HM.out.nd hq;have EB:Hid _:=Grown.met hgr hmap;obtain⟨y0,y1⟩:w1.cell? ⟨G,0,none⟩=some fU∧w1.cell? ⟨G,1,none⟩=some (.map (some M)):=by
   constructor<;>simp[Ξ.cell?,h1.blk]
  clear hgr h1 hmap HC JW;rw[hk]at hput;unfold kM ai at hput;simp only[HK.p]at hput;go_wp2_with fail;go_ret;exact⟨g.nodes.length,_,rfl,rfl,EB.out⟩
end
end Go.Proofs.YtlhimdjkkiflhaaGreat
namespace Go.Loop
open Go.Proofs.Tryz
def Dt.rP:Dt→Nat
 |.bD _ l=>l.rP+1
 |_=>0
def bp (root:Dt):Dt→Bool
 |.ask m=>(aJ m root).isSome&&(bY root 200000 (.ask m)).hd
 |.put n d=>(bY root 200000 (.put n d)).hd&&bp root d
 |.pair _ a b=>bp root a&&bp root b
 |.vec _ l=>decide (l.rP≤1000)&&bp root l
 |.bD a l=>bp root a&&bp root l
 |.sym s=>decide (s.length≤1000000)
 |_=>true
theorem gY {root:Dt}:∀{d:Dt},bp root d=true→pB root d=true
 |.ask m,h=>by simp only[bp,zai]at h;exact h.1
 |.put n d,h=>by simp only[bp,zai]at h;exact gY (d:=d) h.2
 |.pair _ a b,h=>by simp only[bp,pB,zai]at h ⊢;exact⟨gY h.1,gY h.2⟩
 |.vec _ l,h=>by simp only[bp,zai]at h;exact gY (d:=l) h.2
 |.bD a l,h=>by simp only[bp,pB,zai]at h ⊢;exact⟨gY h.1,gY h.2⟩
 |.nil,_=>rfl
 |.sym _,_=>rfl
 |.num _ _,_=>rfl
 |.dI _,_=>rfl
 |.oY _,_=>rfl
 |.txt _ _,_=>rfl
 |.ee,_=>rfl
theorem gZ {root:Dt}{m:Int}:∀{r d:Dt},bp root r=true→aJ m r=some d→bp root d=true
 |.put n x,d,h,hl=>by
  simp only[bp,zai]at h;unfold aJ at hl;split at hl
  ·cases hl;exact h.2
  ·exact gZ (r:=x) h.2 hl
 |.pair _ a b,d,h,hl=>by
  simp only[bp,zai]at h;unfold aJ at hl;cases hq:aJ m a with
  |some x=>rw[hq]at hl;cases hl;exact gZ h.1 hq
  |none=>rw[hq]at hl;exact gZ h.2 hl
 |.vec _ l,d,h,hl=>by
  simp only[bp,zai]at h;unfold aJ at hl;exact gZ (r:=l) h.2 hl
 |.bD a l,d,h,hl=>by
  simp only[bp,zai]at h;unfold aJ at hl;cases hq:aJ m a with
  |some x=>rw[hq]at hl;cases hl;exact gZ h.1 hq
  |none=>rw[hq]at hl;exact gZ h.2 hl
 |.nil,d,h,hl=>by simp[aJ]at hl
 |.sym _,d,h,hl=>by simp[aJ]at hl
 |.num _ _,d,h,hl=>by simp[aJ]at hl
 |.dI _,d,h,hl=>by simp[aJ]at hl
 |.oY _,d,h,hl=>by simp[aJ]at hl
 |.txt _ _,d,h,hl=>by simp[aJ]at hl
 |.ee,d,h,hl=>by simp[aJ]at hl
 |.ask _,d,h,hl=>by simp[aJ]at hl
theorem lA {root:Dt}(hr:bp root root=true):∀(f:Nat) (d:Dt),bp root d=true→bp root (bY root f d)=true
 |0,d,h=>h
 |f+1,.put n x,h=>by
  simp only[bp,zai]at h;exact lA hr f x h.2
 |f+1,.ask m,h=>by
  simp only[bp,zai]at h;obtain⟨d1,yL⟩:=zbP.1 h.1;show bp root (bY root f ((aJ m root).getD .nil))=true;rw[yL];exact lA hr f d1 (gZ hr yL)
 |f+1,.nil,h=>h
 |f+1,.sym _,h=>h
 |f+1,.num _ _,h=>h
 |f+1,.dI _,h=>h
 |f+1,.oY _,h=>h
 |f+1,.txt _ _,h=>h
 |f+1,.pair _ _ _,h=>h
 |f+1,.vec _ _,h=>h
 |f+1,.ee,h=>h
 |f+1,.bD _ _,h=>h
theorem l8 (root:Dt):∀n,(∀d g k g',nj root n d g=some (k,g')→g.nodes.length≤g'.nodes.length)∧∀l acc g ks g',iQ root n l acc g=some (ks,g')→g.nodes.length≤g'.nodes.length
 |0=>⟨λd g k g' h=>by simp[nj]at h,λl acc g ks g' h=>by simp[iQ]at h⟩
 |n+1=>by
  have ih:=l8 root n;refine⟨λd g k g' h=>?_,λl acc g ks g' h=>?_⟩
  ·unfold nj at h;split at h
   ·split at h
    ·cases h;exact zab _
    ·obtain⟨y,hy,e⟩:=zav.1 h;cases e;have:=ih.2 _ _ _ _ _ hy;simp[bP]at this ⊢;omega
   ·split at h
    ·cases h;exact zab _
    ·obtain⟨y,hy,e⟩:=zav.1 h;cases e;have:=ih.2 _ _ _ _ _ hy;simp[bP]at this ⊢;omega
   ·split at h
    ·cases h;exact zab _
    ·cases h;simp
   all_goals (cases h;simp[jF.add])
  ·unfold iQ at h;split at h
   ·cases h;exact zab _
   ·obtain⟨x,hx,e⟩:=zaJ.1 h;have:=ih.1 _ _ _ _ hx;have:=ih.2 _ _ _ _ _ e;omega
   ·cases h
end Go.Loop
namespace Go.Proofs.YtlhimdjkkiflhaaGreat
open Go.Proofs.Tryz
open Go.RowKit Go.Loop
theorem DC:(prog.info? 3).map (λi=>(i.zero,i.size,i.bytes))=some (some (Γ Δ 0),1,8):=by kernel_rfl
structure mJ (w0:Ξ) (lo K:Nat) (L:List Int) (κ:Nat→HK) (E:Env) (root:Dt):Prop where
 mj:∃rv,bX lo K L w0 E root rv
 good:bp root root=true
 inj:∀i j,i<K→j<K→E.α i=E.α j→i=j
 kind:∀i h,i<K→qB w0 h (E.α i)→κ i=h
section
variable (w0:Ξ)(lo K:Nat)(L:List Int)(κ:Nat→HK)(E:Env)(root:Dt)(G M:Nat)
def xx (n:Nat):Prop:=∀d v w g ay nv k g',bX lo K L w0 E d v→bp root d=true→ei w0 w G M κ E g ay nv→gG w0 K κ E g.met→nj root n d g=some (k,g')→g'.nodes.length≤999999→θ prog 28 #[ai G,v] w λe w'=>e=.returned (Γ Δ (k:Nat))∧Grown w0 w w' G M κ E ay nv g'∧gG w0 K κ E g'.met
end
end Go.Proofs.YtlhimdjkkiflhaaGreat
namespace Go.Proofs.YtlhimdjkkiflhaaGreat
open Go.RowKit Go.Loop
theorem vu:∀(l:List dF) (ay:List Θ) (i:Nat) (x:dF) (sv:Θ),l[i]?=some x→ay[i]?=some sv→(kY l ay)[i*5+4]?=some sv
 |[],_,i,x,sv,h,_=>by simp at h
 |_::_,[],i,x,sv,_,h=>by simp at h
 |y::l,s::ay,0,x,sv,h,h2=>by
  simp at h h2;subst h h2;simp[kY,jN]
 |y::l,s::ay,i+1,x,sv,h,h2=>by
  have:=vu l ay i x sv (by simpa using h) (by simpa using h2);rw[kY,zaZ (by simp[jN];omega)];have e:(i+1)*5+4-(jN y s).length=i*5+4:=by simp[jN];omega
  rw[e];exact this
theorem Bo:∀(l:List dF) (ay:List Θ) (i:Nat) (ks:List Nat) (sv:Θ),i<l.length→ay.length=l.length→kY (bP l i ks) (ay.set i sv)=(kY l ay).set (i*5+4) sv
 |[],_,i,ks,sv,h,_=>by simp at h
 |_::_,[],i,ks,sv,_,h=>by simp at h
 |y::l,s::ay,0,ks,sv,_,_=>by
  simp[bP,kY,jN]
 |y::l,s::ay,i+1,ks,sv,h,h2=>by
  have:=Bo l ay i ks sv (by simpa using h) (by simpa using h2);have e:bP (y::l) (i+1) ks=y::bP l i ks:=rfl;rw[e,zaM,kY,this,kY,List.set_append_right _ _ (by simp[jN];omega)];have e:(i+1)*5+4-(jN y s).length=i*5+4:=by simp[jN];omega
  rw[e]
theorem xy {l:List dF}{i:Nat}{ks:List Nat}{j:Nat}{x:dF}(h:(bP l i ks)[j]?=some x):(j=i∧x.subs=ks)∨(j≠i∧l[j]?=some x):=by
 unfold bP at h;rw[zbK]at h;by_cases e:i=j
 ·subst e;simp at h;obtain⟨y,-,rfl⟩:=h;exact .inl ⟨rfl,rfl⟩
 ·simp[e]at h;exact .inr ⟨λq=>e q.symm,h⟩
section
variable {w0 w:Ξ}{G M K:Nat}{κ:Nat→HK}{E:Env}{g:jF}{ay:List Θ}{nv:Θ}
theorem ei.sub (h:ei w0 w G M κ E g ay nv){i:Nat}(hi:i<g.nodes.length){ks:List Nat}{B:Nat}(hB:w0.heap.size≤B)(hblk:w.heap[B]?=some (.cells (ks.map λk:Nat=>Θ.int .i64 (k:Int)).toArray 3)):∃nb cap,nv=.slice (some ⟨nb,0,none⟩) g.nodes.length cap∧(∃sv,w.cell? ⟨nb,i*5+4,none⟩=some sv)∧w.frozen? ⟨nb,i*5+4,none⟩=false∧ei w0 (w.setCell ⟨nb,i*5+4,none⟩ (.slice (some ⟨B,0,none⟩) ks.length ks.length)) G M κ E { g with nodes:=bP g.nodes i ks } (ay.set i (.slice (some ⟨B,0,none⟩) ks.length ks.length)) nv∧jL G M nv.ownBlock w (w.setCell ⟨nb,i*5+4,none⟩ (.slice (some ⟨B,0,none⟩) ks.length ks.length)):=by
 obtain⟨es,c,hm,TU⟩:=h.map;rcases h.row.2 with⟨_,h0⟩|⟨nb,cap,cur,rfl,q1,q2,q3,q4,q5,q6⟩
 ·omega
 have ml:i<ay.length:=by rw[h.len];exact hi
 have hcell:w.cell? ⟨nb,i*5+4,none⟩=some ay[i]:=by
  have:=h.row.cells (g:=nb) rfl (i*5+4) _ (vu _ _ i _ _ (zaP hi) (zaP ml));simpa[ι]using this
 have ho:∀b,b≠nb→(w.setCell ⟨nb,i*5+4,none⟩ (.slice (some ⟨B,0,none⟩) ks.length ks.length)).heap[b]?=w.heap[b]?:=λb hb=>zay _ _ _ _ hb;have nG:G≠nb:=λe=>by rw[←e,h.blk]at q2;simp at q2
 have nM:M≠nb:=λe=>by rw[←e,hm]at q2;simp at q2
 have ac4:(w.setCell ⟨nb,i*5+4,none⟩ (.slice (some ⟨B,0,none⟩) ks.length ks.length)).heap[nb]?=some (.cells (cur.setIfInBounds (i*5+4) (.slice (some ⟨B,0,none⟩) ks.length ks.length)) 50):=bk q2 _ _;refine⟨nb,cap,rfl,⟨_,hcell⟩,by simp[Ξ.frozen?,q2],⟨h.gm,h.VG,h.VH,⟨h.low.os,h.low.tape,h.low.output,by have:=h.low.size;simpa using this,λb hb=>(ho b (by omega)).trans (h.low.block b hb)⟩,(ho G nG).trans h.blk,?_,⟨es,c,(ho M nM).trans hm,TU⟩,by simp[bP,h.len],λj x sv hx Qi=>?_⟩,⟨rfl,rfl,rfl,by simp,λb _ _ _ b4=>ho b (λe=>b4 (by rw[e];rfl))⟩⟩
 ·have e1:(bP g.nodes i ks).length=g.nodes.length:=by simp[bP]
  show Ξ.ownsRow _ _ _ _ _ (bP g.nodes i ks).length (kY (bP g.nodes i ks) _);rw[Bo _ _ _ _ _ hi h.len,e1];refine⟨by rw[zcj];exact h.row.1,.inr ⟨nb,cap,_,rfl,q1,ac4,q3,q4,by simpa using q5,?_⟩⟩;rw[Array.toList_setIfInBounds,List.take_set,q6]
 ·rcases xy hx with⟨rfl,hk⟩|⟨hne,AP⟩
  ·rw[List.getElem?_set_self (by rw[h.len];exact hi)]at Qi;cases Qi;right;refine⟨B,by rw[hk],hB,?_⟩;rw[hk];exact(ho B (λe=>by rw[e,q2]at hblk;simp at hblk)).trans hblk
  ·rw[List.getElem?_set_ne (λe=>hne e.symm)]at Qi;rcases h.subs j x sv AP Qi with q|⟨b,p1,p2,p3⟩
   ·exact .inl q
   ·exact .inr ⟨b,p1,p2,(ho b (λe=>by rw[e,q2]at p3;simp at p3)).trans p3⟩
end
end Go.Proofs.YtlhimdjkkiflhaaGreat
