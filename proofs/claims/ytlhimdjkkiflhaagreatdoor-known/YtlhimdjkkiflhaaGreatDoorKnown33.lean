import Derived.Deep.LoopGhost
import Derived.Test.YtlhimdjkkiflhaaGreatDoorKnown32
set_option maxHeartbeats 8000000
set_option maxRecDepth 100000
namespace Go.Proofs.YtlhimdjkkiflhaaGreatDoor
open Go.Proofs.Tryz
open Go.RowKit Go.Loop
theorem jQ:eF prog 150=true:=by kernel_rfl
theorem rZ:(prog.info? 150).bind (·.zero)=some (.pointer none):=by kernel_rfl
theorem Eb:eF prog 272=true:=by kernel_rfl
theorem Sj:(prog.info? 272).bind (·.zero)=some (.agg #[]):=by kernel_rfl
theorem Ec:eF prog 168=true:=by kernel_rfl
theorem Sk:(prog.info? 168).bind (·.zero)=some (.agg #[.string ⟨#[]⟩]):=by kernel_rfl
def qi:Dt→TypeId
 |.nil=>272
 |.sym _=>168
 |.num _ _=>153
 |.cQ _=>155
 |.su _=>157
 |.txt _ _=>158
 |.pair _ _ _=>150
 |.vec _ _=>163
 |_=>0
section
variable {lo K:Nat}{L:List Int}{w0:World}{E:Env}
theorem iG {d:Dt}{v:Value}(hh:d.hd=true)(h:ba lo K L w0 E d v):∃y,v=.iface (qi d) y:=by
 cases d<;>first|(simp[Dt.hd]at hh;done)|(unfold ba at h;first|exact⟨_,h⟩|exact⟨_,h.2.2.1⟩)
theorem bF:∀{d:Dt} {v:Value},ba lo K L w0 E d v→∃t y,v=.iface t y
 |.put n x,v,h=>by unfold ba at h;exact bF h.2.2.2
 |.ask n,v,h=>by unfold ba at h;exact⟨_,_,h.2⟩
 |.iw,v,h=>by unfold ba at h;exact h.elim
 |.cK _ _,v,h=>by unfold ba at h;exact h.elim
 |.nil,v,h=>⟨_,_,(iG rfl h).choose_spec⟩
 |.sym _,v,h=>⟨_,_,(iG rfl h).choose_spec⟩
 |.num _ _,v,h=>⟨_,_,(iG rfl h).choose_spec⟩
 |.cQ _,v,h=>⟨_,_,(iG rfl h).choose_spec⟩
 |.su _,v,h=>⟨_,_,(iG rfl h).choose_spec⟩
 |.txt _ _,v,h=>⟨_,_,(iG rfl h).choose_spec⟩
 |.pair _ _ _,v,h=>⟨_,_,(iG rfl h).choose_spec⟩
 |.vec _ _,v,h=>⟨_,_,(iG rfl h).choose_spec⟩
end
structure Sl (w0:World) (lo K:Nat) (L:List Int) (E:Env) (root:Dt):Prop where
 Vb:∃rv,ba lo K L w0 E root rv
 good:bn root root=true
 inj:∀i j,i<K→j<K→E.α i=E.α j→i=j
 pairs:lq root=true
section
variable {lo K:Nat}{L:List Int}{w0:World}{E:Env}{root:Dt}
theorem Sl.meant (hG:Sl w0 lo K L E root){w:World}(dV:Below w0.heap.size w0 w){d:Dt}{v:Value}(hd:ba lo K L w0 E d v)(hs:d∈aI root):Calls prog 78 #[v] w (λe w'=>∃v',e=.returned v'∧w'=w∧ba lo K L w0 E (bR root 200000 d) v')∧(bR root 200000 d).hd=true∧bR root 200000 d∈aI root:=by
 obtain⟨rv,nX⟩:=hG.Vb;have hg:=fP hG.good hs;exact⟨zA dV nX (fu hG.good) 200000 d v hd (fu hg) (xn hd hg),xn hd hg,iY hG.good 200000 d hs⟩
def tM (lo K:Nat)(L:List Int)(w0:World)(E:Env)(ds:List Dt)(vs:List Value):Prop:=ds.length=vs.length∧∀(j:Nat) d x,ds[j]?=some d→vs[j]?=some x→ba lo K L w0 E d x
theorem tM.snoc {ds:List Dt}{vs:List Value}(h:tM lo K L w0 E ds vs){d:Dt}{v:Value}(hd:ba lo K L w0 E d v):tM lo K L w0 E (ds++[d]) (vs++[v]):=by
 refine⟨by simp[h.1],λj d' x h1 h2=>?_⟩;have hl:=h.1;rcases zag j ds.length with hj|hj
 ·rw[zaI hj]at h1;rw[zaI (by omega)]at h2;exact h.2 j d' x h1 h2
 ·have e0:j=ds.length:=by
   have:=(zaT.1 h1).1;simp at this;omega
  subst e0;rw[zaK (zaa _)]at h1;rw[zaK (by omega)]at h2;simp at h1;simp[hl]at h2;subst h1 h2;exact hd
def K5 (base lo K:Nat)(L:List Int)(w0:World)(E:Env):Option (List UInt8×List Dt)→Ending→World→Prop
 |none,e,_=>e=.returned (.tuple #[.string ⟨#[]⟩,.slice none 0 0,.bool false])
 |some (h,held),e,w'=>∃sl vs,e=.returned (.tuple #[.string ⟨⟨h⟩⟩,sl,.bool true])∧w'.ownsRow base 58 1 sl vs.length vs∧tM lo K L w0 E held vs
theorem K6 (hG:Sl w0 lo K L E root)(w:World)(dV:Below w0.heap.size w0 w)(i:Nat)(a b:Dt)(hs: .pair i a b∈aI root)(va vb:Value)(hblk:w0.heap[E.α i]?=some (.cells #[va,vb] 161))(KD:ba lo K L w0 E a va)(PY:ba lo K L w0 E b vb)(r:Option (List UInt8×List Dt))(hr:qh root a b=some r):Calls prog 175 #[au (E.α i)] w λe w'=>K5 w.heap.size lo K L w0 E r e w'∧Below w.heap.size w w':=by
 have mixed:prog.follows Departure.mixedOrders=true:=by kernel_rfl
 have zK:=(dV.block _ (zac.1 hblk).1).trans hblk;have c0:w.cell? ⟨E.α i,0,none⟩=some va:=by simp[World.cell?,zK]
 have c1:w.cell? ⟨E.α i,1,none⟩=some vb:=by simp[World.cell?,zK]
 have PV:E.α i<w.heap.size:=(zac.1 zK).1;have hne:¬E.α i=w.heap.size:=by omega
 obtain⟨hm,zB,OS⟩:=hG.meant dV KD (cX (by simp[aI,sub_self]) hs);have HM:Hid _:=hm;have HG:Hid _:=hG;have HL:Hid _:=dV;have HDB:Hid (b∈aI root∧ba lo K L w0 E b vb):=⟨cX (by simp[aI,sub_self]) hs,PY⟩;clear hm hG dV PY hs hblk zK KD;unfold qh at hr;by_cases Sm:∃h,bR root 200000 a=.sym h
 ·obtain⟨h,Y1⟩:=Sm;rw[Y1]at hr HM;obtain⟨o,ho,rfl⟩:=zai.1 hr;have HO:Hid _:=ho;clear Y1 hr ho;unfold au;go_enter func175,ntmps175;go_wp2_with fail;refine Calls.mono HM.out ?_;rintro e w1 ⟨v,rfl,rfl,hv⟩;unfold ba at hv;subst hv;have BO:(Instr.typeAssert (.iface 168 (.agg #[.string ⟨⟨h⟩⟩])) 58 168 true).run prog w1=_:=bz w1 Ec;go_wp2_with fail;go_loopg [7,8] 900 (λm sv rv wr=>∃(d:Dt) (ds:List Dt) (vs:List Value),ds.length+m≤900∧Hid (d∈aI root∧ba lo K L w0 E d rv)∧Hid ((rW root m d).map (λo=>o.map (ds++·))=some o)∧Hid (Below w1.heap.size w1 wr)∧Hid (wr.heap[w1.heap.size]?=some (.cells #[.string ⟨⟨h⟩⟩] 168))∧Hid (wr.ownsRow (w1.heap.size+1) 58 1 sv vs.length vs)∧Hid (tM lo K L w0 E ds vs))
  case atStart=>
   refine⟨b,[],[],by simp,HDB,?_,(Below.refl _ w1).alloc (zaa _) _,heap_alloc_new w1 _,World.ownsRow_nil _ _ _ _,⟨rfl,λj d x h1 h2=>by simp at h1⟩⟩;show _=_;rw[HO.out];cases o<;>simp
  case round=>
   obtain⟨d,ds,vs,hlen,HD,HE,HB,HS,HW,HR⟩:=hrel;obtain⟨gm,rfl⟩:∃gm,gk=gm+1:=by
    cases gk with
    |zero=>have:=HE.out;simp[rW]at this
    |succ gm=>exact⟨gm,rfl⟩
   obtain⟨hm,aaj,Si⟩:=HG.out.meant (HL.out.trans (HB.out.mono HL.out.size)) HD.out.2 HD.out.1;have EO:Hid _:=hm;have HHD:Hid _:=aaj;have HMS:Hid _:=Si;have K7:=HR.out.1;have F7:Hid _:=HE.out;simp only[rW]at F7;have aak:Hid (Below w0.heap.size w0 wr):=HL.out.trans (HB.out.mono HL.out.size);clear hm HE aaj Si HM;obtain⟨a1,k1,rfl⟩:=bh HW.out;have g0:wr.cell? ⟨w1.heap.size,0,none⟩=some (.string ⟨⟨h⟩⟩):=by have:=HS.out;simp[World.cell?,this]
   generalize LX:bR root 200000 d=mt at EO HHD HMS F7;by_cases ox:∃j x y,mt=.pair j x y
   ·obtain⟨j,x,y,rfl⟩:=ox;go_wp2_with fail;refine Calls.mono EO.out ?_;rintro e w2 ⟨v,rfl,rfl,hv⟩;unfold ba at hv;obtain⟨hj1,P5,rfl,vx,vy,hcell,Ed,hdy⟩:=hv;have HDX:Hid _:=Ed;have HDY:Hid _:=hdy;have VD:Hid _:=hcell;have hcw:=(aak.out.block _ (zac.1 hcell).1).trans hcell;have d0:w2.cell? ⟨E.α j,0,none⟩=some vx:=by simp[World.cell?,hcw]
    have d1:w2.cell? ⟨E.α j,1,none⟩=some vy:=by simp[World.cell?,hcw]
    have Mz:E.α j<w2.heap.size:=(zac.1 hcw).1;have adJ:E.α j<w0.heap.size:=(zac.1 hcell).1;have hjn:¬E.α j=w2.heap.size:=by omega
    have BO:(Instr.typeAssert (.iface 150 (.pointer (some ⟨E.α j,0,none⟩))) 58 150 true).run prog w2=_:=bz w2 jQ;obtain⟨tx,yx,rfl⟩:=bF Ed;obtain⟨i0,hi,hz0,hz1,hz2⟩:=info_parts lT;have rF:∀k,(Value.slice a1 vs.length k1).ownBlock=some k→w1.heap.size+1≤k∧k<w2.heap.size:=World.ownsRow.lt HW.out;have Ki:w0.heap.size≤w1.heap.size:=HL.out.size;have UB:w1.heap.size+1≤w2.heap.size:=by have:=(zac.1 HS.out).1;omega
    clear Ed hdy hcell EO LX;unfold au at *;go_wp2_with (at_builtin;refine eY rfl _ _ 162 rfl (w1.heap.size+1) 58 i0 .nilIface 16 underlying162 hi hz0 hz1 hz2 (by decide) rfl _ vs.length vs rfl (World.ownsRow.alloc HW.out _) ⟨w2.heap.size,0,none⟩ 1 1 [.iface tx yx] rfl (by decide) rfl ?c1 ?c2 ?c3 ?c4 ?_)
    case c1=>
     intro j u hj
     match j,hj with
     |0,hj=>simp at hj;subst hj;simp[Addr.add]
    case c2=>intro u hu;simp at hu;subst hu;rfl
    case c3=>omega
    case c4=>simp;omega
    intro v' w6 hown' hgrow kg;have lp:Hid (Below w1.heap.size w1 w6):=(HB.out.alloc HB.out.size _).grown hgrow (by simp;omega) λk hk=>by have:=rF k hk;omega
    have pK:Hid (Below (w1.heap.size+1) (w2.alloc (.cells #[.iface tx yx] 58)) w6):=(Below.refl _ _).grown hgrow (by simp;omega) λk hk=>by have:=rF k hk;omega
    have aal:=((HL.out.trans (lp.out.mono HL.out.size)).block _ adJ).trans VD.out;have d6:w6.cell? ⟨E.α j,1,none⟩=some vy:=by simp[World.cell?,aal]
    have HS6:Hid (w6.heap[w1.heap.size]?=some (.cells #[.string ⟨⟨h⟩⟩] 168)):=(pK.out.block _ (by omega)).trans ((Lib.alloc_old _ _ _ (by omega)).trans HS.out);have Zn:Hid (w6.ownsRow (w1.heap.size+1) 58 1 v' (vs++[Value.iface tx yx]).length (vs++[Value.iface tx yx])):=by show World.ownsRow _ _ _ _ _ _ _;rw[zaL];exact hown'
    have Kq:Hid _:=HR.out.snoc HDX.out;clear hown' hgrow kg aal hcw d0 d1 BO;obtain⟨a6,c6,rfl⟩:=bh Zn.out;go_wp2_with fail;go_roundg gm
    case measure=>omega
    case rel=>
     refine⟨y,ds++[x],vs++[Value.iface tx yx],by simp;omega,⟨cX (by simp[aI,sub_self]) HMS.out,HDY.out⟩,?_,lp.out,HS6.out,Zn.out,Kq.out⟩;show _=_;rw[←F7.out];cases rW root gm y with
     |none=>rfl
     |some q=>cases q<;>simp
   ·by_cases hnil:mt=.nil
    ·subst hnil;have ho:o=some ds:=by have:=F7.out;simpa using this.symm
     subst ho;go_wp2_with fail;refine Calls.mono EO.out ?_;rintro e w2 ⟨v,rfl,rfl,hv⟩;unfold ba at hv;subst hv;have BO:(Instr.typeAssert (.iface 272 (.agg #[])) 58 150 true).run prog w2=_:=ak w2 jQ rZ (by decide);have htb:(Instr.typeAssert (.iface 272 (.agg #[])) 58 272 true).run prog w2=_:=bz w2 Eb;have UB:w1.heap.size<w2.heap.size:=(zac.1 HS.out).1;have hnz:¬w1.heap.size=w2.heap.size:=by omega
     clear LX EO ox;go_wp2_with fail;refine bodyPost_ret (by simp[results,results175,go_sem];rfl) rfl ?_;exact⟨⟨_,vs,rfl,bg (World.ownsRow.alloc HW.out _) (by omega) (λ_ _ _=>rfl),HR.out⟩,HB.out.alloc HB.out.size _⟩
    ·have ho:o=none:=by
      have:=F7.out;cases mt<;>first|exact absurd rfl hnil|exact absurd ⟨_,_,_,rfl⟩ ox|(simpa using this.symm)
     subst ho;have mn:qi mt≠150:=by cases mt<;>first|exact absurd ⟨_,_,_,rfl⟩ ox|(simp[qi])
     have Q8:qi mt≠272:=by cases mt<;>first|exact absurd rfl hnil|(simp[qi])
     go_wp2_with fail;refine Calls.mono EO.out ?_;rintro e w2 ⟨v,rfl,rfl,hv⟩;obtain⟨yv,rfl⟩:=iG HHD.out hv;have BO:(Instr.typeAssert (.iface (qi mt) yv) 58 150 true).run prog w2=_:=ak w2 jQ rZ mn;have htb:(Instr.typeAssert (.iface (qi mt) yv) 58 272 true).run prog w2=_:=ak w2 Eb Sj Q8;clear LX EO ox hnil hv mn Q8;go_wp2_with fail;refine bodyPost_ret (by simp[results,results175,go_sem];rfl) rfl ?_;exact⟨rfl,HB.out⟩
 ·have ho:r=none:=by
   generalize bR root 200000 a=mt at *;cases mt<;>first|exact absurd ⟨_,rfl⟩ Sm|(simpa using hr.symm)
  subst ho;have mn:qi (bR root 200000 a)≠168:=by
   generalize bR root 200000 a=mt at *;cases mt<;>first|exact absurd ⟨_,rfl⟩ Sm|(simp[qi])
  have HHD:Hid _:=zB;clear hr Sm zB OS;generalize bR root 200000 a=mt at *;unfold au;go_enter func175,ntmps175;go_wp2_with fail;refine Calls.mono HM.out ?_;rintro e w1 ⟨v,rfl,rfl,hv⟩;obtain⟨yv,rfl⟩:=iG HHD.out hv;have BO:(Instr.typeAssert (.iface (qi mt) yv) 58 168 true).run prog w1=_:=ak w1 Ec Sk mn;clear HM hv mn;go_wp2_with fail;refine bodyPost_ret (by simp[results,results175,go_sem];rfl) rfl ?_;exact⟨rfl,(Below.refl _ w1).alloc (zaa _) _⟩
end
theorem Bq:prog.underlying 94=some (.map 150 58):=by kernel_rfl
section
variable {P:Program}
theorem qj (w:World){tp te:TypeId}{j:TypeInfo}(a:Addr)(hp:P.underlying tp=some (.pointer te))(hte:P.info? te=some j):(Op.equal tp (.pointer (some a)) (.pointer (some a))).run P w=.ok true w:=by
 have h:∀d:Nat,(Op.equalIn (d+1) tp (.pointer (some a)) (.pointer (some a))).run P w=.ok true w:=λd=>by
  simp[Op.equalIn,run_underlying hp,sizeOf,typeInfo,hte,run_sameAddr_same]
 exact h 9999
theorem pc (w:World){tp te:TypeId}{j:TypeInfo}{a b:Addr}{ca cb:Array Value}{ta tb:TypeId}(hp:P.underlying tp=some (.pointer te))(hte:P.info? te=some j)(hsz:j.size≠0)(hne:a≠b)(ha:w.heap[a.block]?=some (.cells ca ta (0,0)))(hb:w.heap[b.block]?=some (.cells cb tb (0,0))):(Op.equal tp (.pointer (some a)) (.pointer (some b))).run P w=.ok false w:=by
 have h:∀d:Nat,(Op.equalIn (d+1) tp (.pointer (some a)) (.pointer (some b))).run P w=.ok false w:=λd=>by
  simp[Op.equalIn,run_underlying hp,sizeOf,typeInfo,hte,hsz,run_sameAddr_other w hne ha hb]
 exact h 9999
end
theorem l7:prog.underlying 150=some (.pointer 161):=ve .pair
theorem aam {w:World}{b b':Nat}(x:kJ w .pair b)(y:kJ w .pair b'):(Op.equal 150 (au b) (au b')).run prog w=.ok (decide (b=b')) w:=by
 have Hf:(prog.info? 161).any (λi=>i.size != 0)=true:=Iq .pair;cases uF:prog.info? 161 with
 |none=>rw[uF]at Hf;cases Hf
 |some j=>
  rw[uF]at Hf;have hsz:j.size≠0:=by simpa using Hf
  unfold au;by_cases e:b=b'
  ·subst e;rw[qj w _ l7 uF];simp
  ·obtain⟨c,hc⟩:=x;obtain⟨c',hc'⟩:=y;rw[pc w l7 uF hsz (λq=>e (by cases q;rfl)) hc hc'];simp[e]
theorem Br {w:World}{E:Env}{i:Nat}:∀(es:List MapEntry) (l:List (Nat×Value)) (n:Nat),es.map (λe=>(e.key,e.val))=l.map (λp=>(au (E.α p.1),p.2))→kJ w .pair (E.α i)→(∀p∈l,kJ w .pair (E.α p.1))→(∀p∈l,E.α i=E.α p.1→i=p.1)→∃j,(Instr.findAsking 150 (au (E.α i)) es n).run prog w=.ok ((l.lookup i).map λv=>(j,v)) w∧n≤j∧∀v,l.lookup i=some v→(es[j-n]?).map (·.key)=some (au (E.α i))
 |[],[],n,_,_,_,_=>⟨n,by simp[Instr.findAsking],zaa _,λv h=>by simp at h⟩
 |[],_::_,_,h,_,_,_=>by simp at h
 |_::_,[],_,h,_,_,_=>by simp at h
 |e::es,(m,v)::l,n,h,hi,hl,C5=>by
  simp only[zan,List.cons.injEq,zab]at h;obtain⟨⟨h1,h2⟩,h3⟩:=h;unfold Instr.findAsking;rw[h1];have heq:=aam hi (hl _ zap);by_cases hn:i=m
  ·subst hn;exact⟨n,by simp[heq,h2],zaa _,λ_ _=>by simp[h1]⟩
  ·have hne:E.α i≠E.α m:=λe=>hn (C5 _ zap e);obtain⟨j,hj,hle,hk⟩:=Br es l (n+1) h3 hi (λp hp=>hl p (zas _ hp)) (λp hp=>C5 p (zas _ hp));have hb:(i==m)=false:=by simpa using hn
   refine⟨j,by simp[heq,hne,hj,List.lookup_cons,hb],by omega,λv hv=>?_⟩;rw[show j-n=(j-(n+1))+1 by omega,List.getElem?_cons_succ];exact hk v (by simpa[List.lookup_cons,hb]using hv)
def Sn (E:Env)(kn:List (Nat×Value)):List (Value×Value):=kn.map λp=>(au (E.α p.1),p.2)
section
variable {w:World}{M:Nat}{E:Env}{kn:List (Nat×Value)}
theorem xH (b:Bool)(c:Nat)(w:World):(Instr.checkKey b 10000 150 (au c)).run prog w=.ok () w:=by
 unfold Instr.checkKey au;simp[run_underlying l7]
theorem GD (h:jg w M (Sn E kn))(i:Nat)(hi:kJ w .pair (E.α i))(hl:∀p∈kn,kJ w .pair (E.α p.1))(C5:∀p∈kn,E.α i=E.α p.1→i=p.1):(Instr.lookup 94 (.map (some M)) (au (E.α i)) true).run prog w=.ok (.tuple #[(kn.lookup i).getD .nilIface,.bool (kn.lookup i).isSome]) w:=by
 obtain⟨es,clock,h1,h2⟩:=h;have hg:(getObj M).run prog w=.ok (.map es clock) w:=by simp[getObj,Sem.run,h1]
 obtain⟨j,hj,-,-⟩:=Br (w:=w) (E:=E) (i:=i) es.toList kn 0 h2 hi hl C5;obtain⟨i0,PE,hz0,hz1,hz2⟩:=info_parts lT;unfold Instr.lookup Instr.findKey;simp only[Sem.run_bind,run_underlying Bq,Result.andThen_ok,hg,Sem.run_pure,xH,run_underlying l7];cases hes:es.toList with
 |nil=>
  rw[hes]at h2;have hm:kn=[]:=by
   have:=congrArg List.length h2;unfold Sn at this;simp at this;exact zbi this.symm
  subst hm;simp[Instr.findNow,zeroValue,typeInfo,PE,hz0]
 |cons e es'=>
  rw[hes]at hj;have hs:Instr.findNow (.pointer 161) (au (E.α i)) (e::es') 0=none:=by simp[Instr.findNow,Instr.sameNow]
  simp only[hs,hj];cases hq:kn.lookup i with
  |none=>simp[zeroValue,typeInfo,PE,hz0]
  |some v=>simp
theorem K8 (h:jg w M (Sn E kn))(i:Nat)(v:Value)(hi:kJ w .pair (E.α i))(hl:∀p∈kn,kJ w .pair (E.α p.1))(C5:∀p∈kn,E.α i=E.α p.1→i=p.1):∃o tN,(Instr.mapUpdate 94 (.map (some M)) (au (E.α i)) v).run prog w=.ok () { w with heap:=w.heap.setIfInBounds M o }∧jg { w with heap:=w.heap.setIfInBounds M o } M (Sn E tN)∧∀p∈tN,p∈kn∨p=(i,v):=by
 obtain⟨es,clock,h1,h2⟩:=h;have hlt:M<w.heap.size:=(zac.1 h1).1;have hg:(getObj M).run prog w=.ok (.map es clock) w:=by simp[getObj,Sem.run,h1]
 obtain⟨j,hj,-,hkey⟩:=Br (w:=w) (E:=E) (i:=i) es.toList kn 0 h2 hi hl C5;have yX:(Instr.findKey 150 (au (E.α i)) es.toList).run prog w=.ok ((kn.lookup i).map λv=>(j,v)) w:=by
  unfold Instr.findKey;simp only[Sem.run_bind,run_underlying l7,Result.andThen_ok];cases hes:es.toList with
  |nil=>
   rw[hes]at h2;have hm:kn=[]:=by
    have:=congrArg List.length h2;unfold Sn at this;simp at this;exact zbi this.symm
   subst hm;simp[Instr.findNow]
  |cons e es'=>
   rw[hes]at hj;have hs:Instr.findNow (.pointer 161) (au (E.α i)) (e::es') 0=none:=by simp[Instr.findNow,Instr.sameNow]
   simp only[hs,hj]
 cases hq:kn.lookup i with
 |none=>
  rw[hq]at yX;refine⟨.map (es.push { key:=au (E.α i),val:=v,born:=clock }) (clock+1),kn++[(i,v)],?_,⟨es.push { key:=au (E.α i),val:=v,born:=clock },clock+1,?_,?_⟩,?_⟩
  ·unfold Instr.mapUpdate;simp only[Sem.run_bind,run_underlying Bq,Result.andThen_ok,hg,xH,yX,Option.map_none];simp[setObj,Sem.run,h1]
  ·show(w.heap.setIfInBounds M _)[M]?=_;rw[zaJ hlt]
  ·rw[Array.toList_push,zbu,h2];simp[Sn]
  ·intro p hp;simpa using hp
 |some v0=>
  rw[hq]at yX;have hk:=hkey v0 hq;rw[Nat.sub_zero,zaN]at hk;have hst:(Instr.keyThatStays (((es[j]?).map (·.key)).getD (au (E.α i))) (au (E.α i))).run prog w=.ok (au (E.α i)) w:=by
   rw[hk];simp[Instr.keyThatStays,Instr.sameBits,au]
  refine⟨.map (es.modify j λe=>{ e with key:=au (E.α i),val:=v }) clock,kn.modify j λ_=>(i,v),?_,⟨es.modify j λe=>{ e with key:=au (E.α i),val:=v },clock,?_,?_⟩,?_⟩
  ·unfold Instr.mapUpdate;simp only[Sem.run_bind,run_underlying Bq,Result.andThen_ok,hg,xH,yX,zaH,hst];simp[setObj,Sem.run,h1]
  ·show(w.heap.setIfInBounds M _)[M]?=_;rw[zaJ hlt]
  ·apply List.ext_getElem?
   intro q;have h3:=congrArg (λl=>l[q]?) h2;simp only[Sn,zbj,zaN,zbs,List.getElem?_modify]at h3 ⊢;by_cases e:j=q
   ·subst e;simp only[if_true];cases ha:es[j]? with
    |none=>rw[ha]at h3;cases hb:kn[j]? with
           |none=>rfl
           |some z=>rw[hb]at h3;cases h3
    |some y=>rw[ha]at h3;cases hb:kn[j]? with
             |none=>rw[hb]at h3;cases h3
             |some z=>rfl
   ·simp only[if_neg e];rw[h3];cases kn[q]?<;>rfl
  ·intro p hp;obtain⟨q,hq⟩:=List.mem_iff_getElem?.1 hp;rw[List.getElem?_modify]at hq;cases hz:kn[q]? with
   |none=>rw[hz]at hq;cases hq
   |some z=>
    rw[hz]at hq;by_cases e:j=q
    ·simp[e]at hq;exact .inr hq.symm
    ·simp[e]at hq;exact .inl (hq▸List.mem_of_getElem? hz)
end
structure fA (w0:World) (lo K:Nat) (L:List Int) (E:Env) (root:Dt) (R M:Nat) (w:World) (kn:List (Nat×Value)):Prop where
 low:Below w0.heap.size w0 w
 r:w0.heap.size≤R
 m:w0.heap.size≤M
 ne:R≠M
 blk:w.heap[R]?=some (.cells #[.map (some M)] 96)
 mp:jg w M (Sn E kn)
 ok:∀p∈kn,∃a b x n,.pair p.1 a b∈aI root∧rY root n (.pair p.1 a b)=some (.inr x)∧ba lo K L w0 E x p.2∧x.hd=true∧p.1<K∧kJ w0 .pair (E.α p.1)
section
variable {lo K:Nat}{L:List Int}{w0:World}{E:Env}{root:Dt}{R M:Nat}
theorem fA.lt {w:World}{kn:List (Nat×Value)}(h:fA w0 lo K L E root R M w kn):R<w.heap.size∧M<w.heap.size:=by
 obtain⟨es,c,h1,-⟩:=h.mp;exact⟨(zac.1 h.blk).1,(zac.1 h1).1⟩
theorem fA.below {w w':World}{kn:List (Nat×Value)}(h:fA w0 lo K L E root R M w kn)(hb:Below w.heap.size w w'):fA w0 lo K L E root R M w' kn:=by
 obtain⟨es,c,h1,h2⟩:=h.mp;exact⟨h.low.trans (hb.mono h.low.size),h.r,h.m,h.ne,(hb.block _ h.lt.1).trans h.blk,⟨es,c,(hb.block _ h.lt.2).trans h1,h2⟩,h.ok⟩
theorem fA.set {w:World}{kn:List (Nat×Value)}(h:fA w0 lo K L E root R M w kn){a:Addr}(v:Value)(h0:w0.heap.size≤a.block)(hr:a.block≠R)(hm:a.block≠M):fA w0 lo K L E root R M (w.setCell a v) kn:=by
 obtain⟨es,c,h1,h2⟩:=h.mp;exact⟨h.low.setCell h0 v,h.r,h.m,h.ne,(Below.heap_setCell w a v R (λe=>hr e.symm)).trans h.blk,⟨es,c,(Below.heap_setCell w a v M (λe=>hm e.symm)).trans h1,h2⟩,h.ok⟩
def r7 (lo K:Nat)(L:List Int)(w0:World)(E:Env):Int ⊕ Dt→Ending→Prop
 |.inl er,e=>e=.returned (.tuple #[.nilIface,.int .i64 er])
 |.inr x,e=>∃v,e=.returned (.tuple #[v,.int .i64 0])∧ba lo K L w0 E x v∧x.hd=true
def tO (w0:World)(lo K:Nat)(L:List Int)(E:Env)(root:Dt)(R M:Nat)(w:World)(r:Int ⊕ Dt)(e:Ending)(w':World):Prop:=
 r7 lo K L w0 E r e∧Kp M M w w'∧∃tN,fA w0 lo K L E root R M w' tN
def OW (w0:World)(lo K:Nat)(L:List Int)(E:Env)(root:Dt)(R M:Nat)(f:Dt→Option (Int ⊕ Dt)):Prop:=∀d v w kn r,ba lo K L w0 E d v→d∈aI root→fA w0 lo K L E root R M w kn→f d=some r→Calls prog 47 #[au R,v] w λe w'=>tO w0 lo K L E root R M w r e w'
end
end Go.Proofs.YtlhimdjkkiflhaaGreatDoor
namespace Go.Loop
open Go.Proofs.YtlhimdjkkiflhaaGreatDoor
section
variable {root:Dt}{f g:Dt→Option (Int ⊕ Dt)}
theorem zO (h:∀d r,f d=some r→g d=some r):∀(l acc:List Dt) (r:Int ⊕ List Dt),nh f acc l=some r→nh g acc l=some r
 |[],acc,r,e=>e
 |d::l,acc,r,e=>by
  unfold nh at e ⊢;cases hf:f d with
  |none=>rw[hf]at e;cases e
  |some s=>
   rw[hf]at e;rw[h d s hf];cases s with
   |inl x=>exact e
   |inr x=>exact zO h l _ r e
theorem yJ (h:∀d r,f d=some r→g d=some r){held:List Dt}{r:Int ⊕ List (Int×Int)}(e:dZ f held=some r):dZ g held=some r:=by
 unfold dZ at e ⊢;cases hq:nh f [] held with
 |none=>rw[hq]at e;cases e
 |some s=>rw[hq]at e;rw[zO h _ _ _ hq];exact e
theorem Bt (h:∀d r,f d=some r→g d=some r){c x y:Dt}{r:Int ⊕ Dt}(e:kW f c x y=some r):kW g c x y=some r:=by
 unfold kW at e ⊢;cases hq:f c with
 |none=>rw[hq]at e;cases e
 |some s=>
  rw[hq]at e;rw[h _ _ hq];cases s with
  |inl _=>exact e
  |inr z=>
   simp only at e ⊢;by_cases hz:z=.cQ 0
   ·rw[if_pos hz]at e ⊢;exact h _ _ e
   ·rw[if_neg hz]at e ⊢;exact h _ _ e
theorem GF (h:∀d r,f d=some r→g d=some r){a b:Dt}{r:Int ⊕ Dt}(e:l6 root f a b=some r):l6 root g a b=some r:=by
 unfold l6 at e ⊢;cases hq:qh root a b with
 |none=>rw[hq]at e;cases e
 |some s=>
  rw[hq]at e;cases s with
  |none=>exact e
  |some p=>
   obtain⟨hd,held⟩:=p;simp only at e ⊢;by_cases h1:fy hd held.length=false
   ·rw[if_pos h1]at e ⊢;exact e
   ·rw[if_neg h1]at e ⊢;by_cases h2:hd=bS
    ·rw[if_pos h2]at e ⊢;exact e
    ·rw[if_neg h2]at e ⊢;by_cases h3:hd=oq
     ·rw[if_pos h3]at e ⊢;exact Bt h e
     ·rw[if_neg h3]at e ⊢;cases hn:dZ f held with
      |none=>rw[hn]at e;cases e
      |some s=>rw[hn]at e;rw[yJ h hn];exact e
theorem Ee (h:∀d r,f d=some r→g d=some r)(d:Dt)(r:Int ⊕ Dt)(e:kC root f d=some r):kC root g d=some r:=by
 unfold kC at e ⊢;generalize bR root 200000 d=m at e ⊢;cases m<;>first|exact e|exact GF h e
theorem Ef:∀(n:Nat) (d:Dt) (r:Int ⊕ Dt),rY root n d=some r→rY root (n+1) d=some r
 |0,d,r,e=>by simp[rY]at e
 |n+1,d,r,e=>Ee (f:=λx=>rY root n x) (Ef n) d r e
theorem IY {n m:Nat}(h:n≤m){d:Dt}{r:Int ⊕ Dt}(e:rY root n d=some r):rY root m d=some r:=by
 induction h with
 |refl=>exact e
 |step _ ih=>exact Ef _ _ _ ih
theorem OX {n m:Nat}{d:Dt}{r s:Int ⊕ Dt}(h1:rY root n d=some r)(h2:rY root m d=some s):r=s:=by
 have a:=IY (Nat.le_max_left n m) h1;have b:=IY (Nat.le_max_right n m) h2;rw[a]at b;exact Option.some.inj b
theorem Eg (hf:∀d e,f d=some (.inl e)→e≠0):∀(l acc:List Dt) (e:Int),nh f acc l=some (.inl e)→e≠0
 |[],acc,e,h=>by simp[nh]at h
 |d::l,acc,e,h=>by
  unfold nh at h;cases hq:f d with
  |none=>rw[hq]at h;cases h
  |some s=>
   rw[hq]at h;cases s with
   |inl x=>cases h;exact hf d e hq
   |inr x=>exact Eg hf l _ e h
theorem r8 (hf:∀d e,f d=some (.inl e)→e≠0){held:List Dt}{e:Int}(h:dZ f held=some (.inl e)):e≠0:=by
 unfold dZ at h;cases hq:nh f [] held with
 |none=>rw[hq]at h;cases h
 |some s=>
  rw[hq]at h;cases s with
  |inl x=>cases h;exact Eg hf _ _ _ hq
  |inr x=>
   simp only at h;cases hn:tL [] x with
   |none=>rw[hn]at h;cases h;decide
   |some q=>rw[hn]at h;cases h
theorem zP {h:List UInt8}{e:Int}:∀(l:List (Int×Int)) (m:Int×Int),kz h m l=.inl e→e≠0
 |[],m,hh=>by simp[kz]at hh
 |n::r,m,hh=>by
  unfold kz at hh;cases hs:ek h m n with
  |inl x=>rw[hs]at hh;cases hh;rcases tK hs with rfl|rfl<;>decide
  |inr x=>rw[hs]at hh;exact zP r x hh
theorem GG {h:List UInt8}{e:Int}{l:List (Int×Int)}(hh:eJ h l=.inl e):e≠0:=by
 unfold eJ at hh;split at hh<;>exact zP _ _ hh
theorem K9 {h:List UInt8}{e:Int}{l:List (Int×Int)}(hh:rX h l=.inl e):e≠0:=by
 unfold rX at hh;split at hh
 ·cases hh
 ·cases hq:eJ h l with
  |inl x=>rw[hq]at hh;cases hh;exact GG hq
  |inr x=>rw[hq]at hh;cases hh
theorem La (hf:∀d e,f d=some (.inl e)→e≠0){a b:Dt}{e:Int}(h:l6 root f a b=some (.inl e)):e≠0:=by
 unfold l6 at h;split at h
 ·cases h
 ·cases h;decide
 ·split at h
  ·cases h;decide
  ·split at h
   ·cases h
   ·split at h
    ·unfold kW at h;split at h
     ·cases h
     ·rename_i hq;cases h;exact hf _ _ hq
     ·split at h<;>exact hf _ _ h
    ·split at h
     ·cases h
     ·rename_i hq;cases h;exact r8 hf hq
     ·exact K9 (Option.some.inj h)
theorem GH (hf:∀d e,f d=some (.inl e)→e≠0)(d:Dt)(e:Int)(h:kC root f d=some (.inl e)):e≠0:=by
 unfold kC at h;split at h
 ·exact La hf h
 all_goals first|(cases h;done)|(cases h;decide)
theorem Bu:∀(n:Nat) (d:Dt) (e:Int),rY root n d=some (.inl e)→e≠0
 |0,d,e,h=>by simp[rY]at h
 |n+1,d,e,h=>GH (f:=λx=>rY root n x) (Bu n) d e h
theorem zQ (hr:bn root root=true){a b:Dt}{h:List UInt8}{held:List Dt}(hb:b∈aI root)(e:qh root a b=some (some (h,held))):held.length<900∧∀x∈held,x∈aI root:=by
 unfold qh at e;split at e
 ·obtain⟨o,ho,h'⟩:=zai.1 e;obtain⟨r,rfl,h2⟩:=zai.1 h';cases h2;exact Ea hr 900 b _ hb ho
 ·cases e
theorem Sp (hp:lq root=true){a b:Int}(h: .num a b∈aI root):qB (a,b):=by
 have h3:=zav.1 hp _ h;have h4:decide (-1000000≤a∧a≤1000000∧1≤b∧b≤1000000)=true:=h3;unfold qB;exact of_decide_eq_true h4
def P6 (root x:Dt):Prop:=(∀a b,x=.num a b→qB (a,b))∧bn root x=true
theorem xI (hg:bn root root=true)(hp:lq root=true){x:Dt}(h:x∈aI root):P6 root x:=⟨λa b e=>by subst e;exact Sp hp h,fP hg h⟩
theorem xJ {h:List UInt8}{r:Int×Int}:∀(l:List (Int×Int)) (m:Int×Int),qB m→(∀q∈l,qB q)→kz h m l=.inr r→qB r
 |[],m,hm,_,e=>by simp[kz]at e;exact e▸hm
 |n::l,m,hm,hl,e=>by
  unfold kz at e;cases hs:ek h m n with
  |inl x=>rw[hs]at e;cases e
  |inr x=>
   rw[hs]at e;exact xJ l x (xG hm (hl _ zap) hs) (λq hq=>hl q (zas _ hq)) e
theorem Lb (h:List UInt8):qB (mK h):=by
 unfold mK;split<;>(unfold qB;simp)
theorem Ld {h:List UInt8}{r:Int×Int}{l:List (Int×Int)}(hl:∀q∈l,qB q)(e:eJ h l=.inr r):qB r:=by
 unfold eJ at e;split at e
 ·exact xJ _ _ (hl _ zap) (λq hq=>hl q (zas _ hq)) e
 ·exact xJ _ _ (Lb h) hl e
theorem Eh (hf:∀d,d∈aI root→∀x,f d=some (.inr x)→P6 root x):∀(l acc r:List Dt),(∀d∈l,d∈aI root)→(∀x∈acc,P6 root x)→nh f acc l=some (.inr r)→(∀x∈r,P6 root x)∧r.length=acc.length+l.length
 |[],acc,r,_,ha,e=>by simp[nh]at e;subst e;exact⟨ha,rfl⟩
 |d::l,acc,r,hl,ha,e=>by
  unfold nh at e;cases hq:f d with
  |none=>rw[hq]at e;cases e
  |some s=>
   rw[hq]at e;cases s with
   |inl x=>cases e
   |inr x=>
    have:=Eh hf l (acc++[x]) r (λy hy=>hl y (zas _ hy)) (λy hy=>by
     rcases zaM.1 hy with hy|hy
     ·exact ha y hy
     ·rw[zbC]at hy;subst hy;exact hf d (hl d zap) _ hq) e
    refine⟨this.1,?_⟩;rw[this.2];simp;omega
theorem Ei:∀(l:List Dt) (acc q:List (Int×Int)),(∀x∈l,P6 root x)→(∀p∈acc,qB p)→tL acc l=some q→(∀p∈q,qB p)∧q.length=acc.length+l.length
 |[],acc,q,_,ha,e=>by simp[tL]at e;subst e;exact⟨ha,rfl⟩
 |d::l,acc,q,hl,ha,e=>by
  unfold tL at e;split at e
  ·cases ‹_=[]›
  ·rename_i h1;cases h1;have:=Ei _ _ q (λy hy=>hl y (zas _ hy)) (λy hy=>by
    rcases zaM.1 hy with hy|hy
    ·exact ha y hy
    ·rw[zbC]at hy;subst hy;exact(hl _ zap).1 _ _ rfl) e
   refine⟨this.1,?_⟩;rw[this.2];simp;omega
  ·cases e
theorem uq (hf:∀d,d∈aI root→∀x,f d=some (.inr x)→P6 root x){held:List Dt}{q:List (Int×Int)}(hs:∀d∈held,d∈aI root)(e:dZ f held=some (.inr q)):(∀p∈q,qB p)∧q.length=held.length:=by
 unfold dZ at e;cases hq:nh f [] held with
 |none=>rw[hq]at e;cases e
 |some s=>
  rw[hq]at e;cases s with
  |inl x=>cases e
  |inr x=>
   simp only at e;have h1:=Eh hf held [] x hs (λ_ h=>by cases h) hq;cases hn:tL [] x with
   |none=>rw[hn]at e;cases e
   |some y=>
    rw[hn]at e;cases e;have h2:=Ei x [] _ h1.1 (λ_ h=>by cases h) hn;refine⟨h2.1,?_⟩;rw[h2.2,h1.2];simp
theorem kD {l:List Dt}{k:Nat}(h:k<l.length):l.getD k .nil∈l:=by
 rw[List.getD_eq_getElem?_getD,zaf h];exact zaC h
theorem zR {n:Nat}(h:fy bS n=true):n=1:=by simpa[fy,bS]using h
theorem OY {n:Nat}(h:fy oq n=true):n=3:=by simpa[fy,bS,oq]using h
theorem VY {n:Nat}{h:List UInt8}(e:h=[61]∨h=[60])(hc:fy h n=true):n=2:=by
 rcases e with rfl|rfl<;>simpa[fy,bS,oq]using hc
theorem Le (hg:bn root root=true)(hp:lq root=true)(hf:∀d,d∈aI root→∀x,f d=some (.inr x)→P6 root x){a b x:Dt}(hb:b∈aI root)(e:l6 root f a b=some (.inr x)):P6 root x:=by
 unfold l6 at e;split at e
 ·cases e
 ·cases e
 ·rename_i h held VZ;obtain⟨-,hs⟩:=zQ hg hb VZ;split at e
  ·cases e
  ·rename_i hc;have hc':fy h held.length=true:=by simpa using hc
   split at e
   ·rename_i hq;subst hq;have h1:=zR hc';cases e;exact xI hg hp (iY hg 200000 _ (hs _ (kD (l:=held) (k:=0) (by omega))))
   ·split at e
    ·rename_i hq;subst hq;have h1:=OY hc';unfold kW at e;split at e
     ·cases e
     ·cases e
     ·split at e
      ·exact hf _ (hs _ (kD (by omega))) _ e
      ·exact hf _ (hs _ (kD (by omega))) _ e
    ·split at e
     ·cases e
     ·cases e
     ·rename_i q hq;have hqq:=uq hf hs hq;have e1:=Option.some.inj e;unfold rX at e1;split at e1
      ·cases e1;exact⟨λn d hn=>(by cases hn),rfl⟩
      ·split at e1
       ·cases e1
       ·rename_i p ht;cases e1;exact⟨λn d hn=>(by cases hn;exact Ld hqq.1 ht),rfl⟩
theorem GI (hg:bn root root=true)(hp:lq root=true):∀(n:Nat) (d:Dt),d∈aI root→∀x,rY root n d=some (.inr x)→P6 root x
 |0,d,_,x,e=>by simp[rY]at e
 |n+1,d,hd,x,e=>by
  have hm:=iY hg 200000 d hd;unfold rY kC at e;generalize bR root 200000 d=m at e hm;cases m with
  |pair i a b=>exact Le hg hp (λd hd x=>GI hg hp n d hd x) (cX (by simp[aI,sub_self]) hm) e
  |num a b=>cases e;exact xI hg hp hm
  |cQ _=>cases e;exact xI hg hp hm
  |su _=>cases e;exact xI hg hp hm
  |txt _ _=>cases e;exact xI hg hp hm
  |nil=>cases e
  |sym _=>cases e
  |vec _ _=>cases e
  |iw=>cases e
  |cK _ _=>cases e
  |put _ _=>cases e
  |ask _=>cases e
end
end Go.Loop
namespace Go.Proofs.YtlhimdjkkiflhaaGreatDoor
open Go.Proofs.Tryz
open Go.RowKit Go.Loop
theorem xK {β:Type}{i:Nat}{v:β}:∀{l:List (Nat×β)},l.lookup i=some v→(i,v)∈l
 |[],h=>by simp at h
 |(j,u)::l,h=>by
  rw[zby]at h;by_cases e:i=j
  ·subst e;simp at h;subst h;exact zap
  ·have hb:(i==j)=false:=by simpa using e
   rw[hb]at h;exact zas _ (xK h)
section
variable {lo K:Nat}{L:List Int}{w0:World}{E:Env}{root:Dt}{R M:Nat}
theorem fA.hat {w:World}{kn:List (Nat×Value)}(h:fA w0 lo K L E root R M w kn){b:Nat}(x:kJ w0 .pair b):kJ w .pair b:=by
 obtain⟨c,hc⟩:=x;exact⟨c,(h.low.block _ (zac.1 hc).1).trans hc⟩
theorem fA.facts {w:World}{kn:List (Nat×Value)}(h:fA w0 lo K L E root R M w kn)(hG:Sl w0 lo K L E root){i:Nat}(hK:i<K):(∀p∈kn,kJ w .pair (E.α p.1))∧∀p∈kn,E.α i=E.α p.1→i=p.1:=by
 refine⟨λp hp=>?_,λp hp e=>?_⟩
 ·obtain⟨_,_,_,_,_,_,_,_,_,h4⟩:=h.ok p hp;exact h.hat h4
 ·obtain⟨_,_,_,_,_,_,_,_,h3,_⟩:=h.ok p hp;exact hG.inj _ _ hK h3 e
theorem fA.put {w:World}{kn tN:List (Nat×Value)}{o:Obj}{i:Nat}{v:Value}{a b x:Dt}{n:Nat}(h:fA w0 lo K L E root R M w kn)(hmp:jg { w with heap:=w.heap.setIfInBounds M o } M (Sn E tN))(pX:∀p∈tN,p∈kn∨p=(i,v))(bX: .pair i a b∈aI root∧rY root n (.pair i a b)=some (.inr x)∧ba lo K L w0 E x v∧x.hd=true∧i<K∧kJ w0 .pair (E.α i)):fA w0 lo K L E root R M { w with heap:=w.heap.setIfInBounds M o } tN:=by
 have hm:=h.m;refine⟨⟨h.low.os,h.low.tape,h.low.output,by simpa using h.low.size,λb hb=>(zak (by omega)).trans (h.low.block b hb)⟩,h.r,h.m,h.ne,(zak (λe=>h.ne e.symm)).trans h.blk,hmp,λp hp=>(pX p hp).elim (h.ok p) λe=>?_⟩;subst e;exact⟨a,b,x,n,bX⟩
theorem Lf (hG:Sl w0 lo K L E root)(n:Nat)(w:World)(kn:List (Nat×Value))(hA:fA w0 lo K L E root R M w kn)(i:Nat)(a b:Dt)(hs: .pair i a b∈aI root)(hK:i<K)(hat:kJ w0 .pair (E.α i))(r:Int ⊕ Dt)(hr:l6 root (λx=>rY root n x) a b=some r)(hl:Calls prog 129 #[au R,au (E.α i)] w λe w'=>tO w0 lo K L E root R M w r e w'):Calls prog 79 #[au R,au (E.α i)] w λe w'=>tO w0 lo K L E root R M w r e w':=by
 have R9:rY root (n+1) (.pair i a b)=some r:=by
  show kC root (λx=>rY root n x) (.pair i a b)=some r;unfold kC;rw[fO rfl];exact hr
 have c0:w.cell? ⟨R,0,none⟩=some (.map (some M)):=by have:=hA.blk;simp[World.cell?,this]
 have hlk:=GD hA.mp i (hA.hat hat) (hA.facts hG hK).1 (hA.facts hG hK).2;cases hq:kn.lookup i with
 |some v0=>
  obtain⟨a',b',x,m,h1,h2,h3,h4,-,-⟩:=hA.ok (i,v0) (xK hq);obtain⟨rfl,rfl⟩:=K4 hG.pairs hs h1;have hrx:r=.inr x:=OX R9 h2;subst hrx;rw[hq,zaF,Option.isSome_some]at hlk;obtain⟨t5,y5,rfl⟩:=bF h3;have HV:Hid _:=h3;have HA:Hid _:=hA;clear h3 hA hG hs hat hr hl R9 h2 h1 hq;unfold au at *;go_enter func79,ntmps79;go_wp2_with fail;go_ret2;exact⟨⟨_,rfl,HV.out,h4⟩,Kp.refl _ _ _,kn,HA.out⟩
 |none=>
  rw[hq,zbc,zbF]at hlk;have HG:Hid _:=hG;have HL:Hid _:=hl;have HS:Hid (.pair i a b∈aI root∧kJ w0 .pair (E.α i)):=⟨hs,hat⟩;have R1:Hid _:=R9;clear hG hl hs hat hr hA hq R9;unfold au at *;go_enter func79,ntmps79;go_wp2_with fail;refine Calls.mono HL.out ?_;rintro e w1 ⟨ho,uG,OZ,pW⟩;clear HL hlk c0;cases r with
  |inl er=>
   have hne:(er != 0)=true:=by simpa using Bu _ _ _ R1.out
   have HZ:Hid (Kp M M w w1∧∃tN,fA w0 lo K L E root R M w1 tN):=⟨uG,OZ,pW⟩;unfold r7 at ho;subst ho;clear uG pW;go_wp2_with fail;go_ret2;exact⟨rfl,HZ.out⟩
  |inr x=>
   obtain⟨v,rfl,hv,hh⟩:=ho;obtain⟨t5,y5,rfl⟩:=bF hv;have c1:w1.cell? ⟨R,0,none⟩=some (.map (some M)):=by have:=pW.blk;simp[World.cell?,this]
   obtain⟨o,tN,hput,hmp,pX⟩:=K8 pW.mp i (.iface t5 y5) (pW.hat HS.out.2) (pW.facts HG.out hK).1 (pW.facts HG.out hK).2;have HZ:Hid (Kp M M w { w1 with heap:=w1.heap.setIfInBounds M o }∧fA w0 lo K L E root R M { w1 with heap:=w1.heap.setIfInBounds M o } tN):=⟨uG.trans ⟨rfl,rfl,rfl,by simp,λb hb h1 _=>zak (λe=>h1 e.symm)⟩,pW.put hmp pX ⟨HS.out.1,R1.out,hv,hh,hK,HS.out.2⟩⟩;have HV:Hid _:=hv;clear uG pW hv hmp pX;unfold au at hput;go_wp2_with fail;go_ret2;exact⟨⟨_,rfl,HV.out,hh⟩,HZ.out.1,tN,HZ.out.2⟩
end
theorem r9:eF prog 153=true:=by kernel_rfl
theorem Bv:(prog.info? 153).bind (·.zero)=some (.agg #[.int .i64 0,.int .i64 0]):=by kernel_rfl
theorem xL:eF prog 155=true:=by kernel_rfl
theorem zS:(prog.info? 155).bind (·.zero)=some (.agg #[.int .i64 0]):=by kernel_rfl
theorem zT:eF prog 157=true:=by kernel_rfl
theorem Ej:(prog.info? 157).bind (·.zero)=some (.agg #[.int .i64 0]):=by kernel_rfl
theorem zU:eF prog 158=true:=by kernel_rfl
theorem Ek:(prog.info? 158).bind (·.zero)=some (.pointer none):=by kernel_rfl
theorem kF (w:World)(t u:TypeId)(y z:Value)(hp:eF prog u=true)(hz:(prog.info? u).bind (·.zero)=some z):(Instr.typeAssert (.iface t y) 58 u true).run prog w=.ok (if t=u then .tuple #[y,.bool true]else .tuple #[z,.bool false]) w:=by
 by_cases h:t=u
 ·subst h;rw[if_pos rfl];exact bz w hp
 ·rw[if_neg h];exact ak w hp hz h
section
variable {lo K:Nat}{L:List Int}{w0:World}{E:Env}{root:Dt}{R M:Nat}
def GJ:Dt→Bool
 |.num _ _=>true
 |.cQ _=>true
 |.su _=>true
 |.txt _ _=>true
 |_=>false
theorem El (hG:Sl w0 lo K L E root)(n:Nat)(TU:∀w kn i a b r,fA w0 lo K L E root R M w kn→ .pair i a b∈aI root→(∃v,ba lo K L w0 E (.pair i a b) v)→l6 root (λx=>rY root n x) a b=some r→Calls prog 79 #[au R,au (E.α i)] w λe w'=>tO w0 lo K L E root R M w r e w'):OW w0 lo K L E root R M (λx=>rY root (n+1) x):=by
 intro d v w kn r hd hs hA hr;obtain⟨hm,zB,OS⟩:=hG.meant hA.low hd hs;obtain⟨t,y,rfl⟩:=bF hd;have hr1:kC root (λx=>rY root n x) d=some r:=hr;unfold kC at hr1;generalize bR root 200000 d=mt at hm zB OS hr1;have HM:Hid _:=hm;have HA:Hid _:=hA;have HO:Hid _:=TU;have HS:Hid _:=OS;clear hm hG hA hr hd hs TU OS;by_cases ox:∃i a b,mt=.pair i a b
 ·obtain⟨i,a,b,rfl⟩:=ox;have hr2:l6 root (λx=>rY root n x) a b=some r:=hr1;clear hr1;unfold au;go_enter func47,ntmps47;go_wp2_with fail;refine Calls.mono HM.out ?_;rintro e w1 ⟨v,rfl,rfl,hv⟩;have hva:=hv;unfold ba at hva;obtain⟨-,-,rfl,-⟩:=hva;have HC:Hid _:=HO.out w1 kn i a b r HA.out HS.out ⟨_,hv⟩ hr2;have BO:(Instr.typeAssert (.iface 150 (au (E.α i))) 58 150 true).run prog w1=_:=bz w1 jQ;clear hv HM HO HS hr2 zB;unfold au at *;go_wp2_with fail;refine Calls.mono HC.out ?_;rintro e w2 ⟨ho,hk2,GK,uZ⟩;have HZ:Hid (Kp M M w1 w2∧∃tN,fA w0 lo K L E root R M w2 tN):=⟨hk2,GK,uZ⟩;clear HC hk2 uZ HA BO;cases r with
  |inl er=>
   have Hs:=ho;unfold r7 at Hs;subst Hs;go_wp2_with fail;go_ret2;exact⟨rfl,HZ.out⟩
  |inr q=>
   obtain⟨v,rfl,hv,hh⟩:=ho;have HV:Hid _:=hv;obtain⟨t5,y5,rfl⟩:=bF hv;clear hv;go_wp2_with fail;go_ret2;exact⟨⟨_,rfl,HV.out,hh⟩,HZ.out⟩
 ·by_cases hpl:GJ mt=true
  ·have oZ:r=.inr mt:=by cases mt<;>first|(simp[GJ]at hpl;done)|(cases hr1;rfl)
   subst oZ;have TV:qi mt=153∨qi mt=155∨qi mt=157∨qi mt=158:=by cases mt<;>first|(simp[GJ]at hpl;done)|simp[qi]
   clear hr1 ox hpl HO HS;unfold au;go_enter func47,ntmps47;go_wp2_with fail;refine Calls.mono HM.out ?_;rintro e w1 ⟨v,rfl,rfl,hv⟩;obtain⟨yv,rfl⟩:=iG zB hv;have HV:Hid _:=hv;clear HM hv;generalize qi mt=tt at *;have a1:=kF w1 tt _ yv _ jQ rZ;have a2:=kF w1 tt _ yv _ r9 Bv;have a3:=kF w1 tt _ yv _ xL zS;have a4:=kF w1 tt _ yv _ zT Ej;have a5:=kF w1 tt _ yv _ zU Ek;rcases TV with rfl|rfl|rfl|rfl
   all_goals
    rw[if_neg (by decide)]at a1;first|rw[if_pos rfl]at a2|rw[if_neg (by decide)]at a2
    first|rw[if_pos rfl]at a3|rw[if_neg (by decide)]at a3
    first|rw[if_pos rfl]at a4|rw[if_neg (by decide)]at a4
    first|rw[if_pos rfl]at a5|rw[if_neg (by decide)]at a5
    go_wp2_with fail;go_ret2;exact⟨⟨_,rfl,HV.out,zB⟩,Kp.refl _ _ _,kn,HA.out⟩
  ·have oZ:r=.inl 10:=by cases mt<;>first|exact absurd rfl hpl|exact absurd ⟨_,_,_,rfl⟩ ox|(cases hr1;rfl)
   subst oZ;have TV:qi mt≠150∧qi mt≠153∧qi mt≠155∧qi mt≠157∧qi mt≠158:=by cases mt<;>first|exact absurd rfl hpl|exact absurd ⟨_,_,_,rfl⟩ ox|simp[qi]
   clear hr1 ox hpl HO HS;unfold au;go_enter func47,ntmps47;go_wp2_with fail;refine Calls.mono HM.out ?_;rintro e w1 ⟨v,rfl,rfl,hv⟩;obtain⟨yv,rfl⟩:=iG zB hv;have a1:(Instr.typeAssert (.iface (qi mt) yv) 58 150 true).run prog w1=_:=ak w1 jQ rZ TV.1;have a2:(Instr.typeAssert (.iface (qi mt) yv) 58 153 true).run prog w1=_:=ak w1 r9 Bv TV.2.1;have a3:(Instr.typeAssert (.iface (qi mt) yv) 58 155 true).run prog w1=_:=ak w1 xL zS TV.2.2.1;have a4:(Instr.typeAssert (.iface (qi mt) yv) 58 157 true).run prog w1=_:=ak w1 zT Ej TV.2.2.2.1;have a5:(Instr.typeAssert (.iface (qi mt) yv) 58 158 true).run prog w1=_:=ak w1 zU Ek TV.2.2.2.2;clear HM hv TV;go_wp2_with fail;go_ret2;exact⟨rfl,Kp.refl _ _ _,kn,HA.out⟩
end
end Go.Proofs.YtlhimdjkkiflhaaGreatDoor
