import Derived.Test.YtlhimdjkkiflhaaGreatDoorCut34
set_option maxHeartbeats 8000000
set_option maxRecDepth 100000
namespace Go.Loop
def cX:Nat→List UInt8
 |0=>[32,98,99]
 |1=>[32,40,100,32,101,41]
 |2=>[32,35,40,102,41]
 |3=>[32,39,103]
 |4=>[32,40,104,32,46,32,105,41]
 |5=>[10,59,32,106,10]
 |6=>[32,45]
 |7=>[32,98]
 |_=>[]
def bN (ps:List Nat):List UInt8:=(ps.map cX).flatten
def aZ (a:Nat)(w:List UInt8):Tok:={ aq 14 a (a+w.length)with text:=w }
def jX:Nat→Nat→List Tok
 |0,a=>[aZ (a+1) [98,99]]
 |1,a=>[aq 2 (a+1) (a+2),aZ (a+2) [100],aZ (a+4) [101],aq 3 (a+5) (a+6)]
 |2,a=>[aq 5 (a+1) (a+3),aZ (a+3) [102],aq 3 (a+4) (a+5)]
 |3,a=>[aq 4 (a+1) (a+2),aZ (a+2) [103]]
 |4,a=>[aq 2 (a+1) (a+2),aZ (a+2) [104],aq 7 (a+4) (a+5),aZ (a+6) [105],aq 3 (a+7) (a+8)]
 |6,a=>[aZ (a+1) [45]]
 |7,a=>[aZ (a+1) [98]]
 |_,_=>[]
def cY:List Nat→Nat→List Tok
 |[],_=>[]
 |p::ps,a=>jX p a++cY ps (a+(cX p).length)
theorem dE (p:Nat)(ps:List Nat):bN (p::ps)=cX p++bN ps:=by simp[bN]
theorem oH (ps qs:List Nat):bN (ps++qs)=bN ps++bN qs:=by simp[bN]
theorem oI:∀(ps qs:List Nat) (a:Nat),cY (ps++qs) a=cY ps a++cY qs (a+(bN ps).length)
 |[],qs,a=>by simp[cY,bN]
 |p::ps,qs,a=>by
  simp only[zat,cY,oI ps qs,dE,zaw,zaP,Nat.add_assoc]
section
variable {s:List UInt8}{a:Nat}
theorem aw {l r:List UInt8}{k:Nat}(h:s.drop a=l)(e:l.drop k=r):s.drop (a+k)=r:=by rw[←zbm,h,e]
theorem ak {l:List UInt8}{k:Nat}(h:s.drop a=l)(hs:(bB l.length true l).1=k):ax s a=gf s (a+k):=by simp only[ax,nt,h,hs]
theorem dX {c:UInt8}{r:List UInt8}(h:c≠35):cg (c::r)=false:=by cases r<;>simp[cg,h]
theorem fO {r:List UInt8}(h:s.drop a=40::r):gf s a=aq 2 a (a+1):=by simp[gf,h]
theorem jM {r:List UInt8}(h:s.drop a=41::r):gf s a=aq 3 a (a+1):=by simp[gf,h]
theorem xF {r:List UInt8}(h:s.drop a=39::r):gf s a=aq 4 a (a+1):=by simp[gf,h]
theorem Bh {r:List UInt8}(h:s.drop a=35::40::r):gf s a=aq 5 a (a+2):=by
 have h1:s.drop (a+1)=40::r:=aw h rfl;simp[gf,h,gA,h1]
theorem Q9 (h:s.drop a=[35]):gf s a=bY a:=by
 have h1:s.drop (a+1)=[]:=aw h rfl;simp[gf,h,gA,h1,eo,dW,br,fR]
theorem at_end (h:s.drop a=[]):gf s a=b9 s:=by simp[gf,h]
theorem ct {w r:List UInt8}(hw:w≠[])(h:s.drop a=w++r)(hall:w.all LO=true)(hn:br bt w=w.length)(hr:br bt (w++r)=w.length)(hm:dn w=false)(hd:w≠[46]):gf s a=aZ a w:=by
 cases w with
 |nil=>exact absurd rfl hw
 |cons c w=>
  have hc:bt (c.toNat:Int)=true:=by
   simp only[zaf,zac]at hall;exact hall.1
  have n40:c.toNat≠40:=λe=>by rw[e]at hc;cases hc
  have n41:c.toNat≠41:=λe=>by rw[e]at hc;cases hc
  have n39:c.toNat≠39:=λe=>by rw[e]at hc;cases hc
  have n34:c.toNat≠34:=λe=>by rw[e]at hc;cases hc
  have n35:c.toNat≠35:=λe=>by rw[e]at hc;cases hc
  unfold gf;rw[h,zat];dsimp only;rw[if_neg n40,if_neg n41,if_neg n39,if_neg n34,if_neg n35,if_pos hc];have hcut:fR s a (a+(c::w).length)=c::w:=by
   simp only[fR,h];rw[show a+(c::w).length - a=(c::w).length by omega];simp
  unfold jG;dsimp only;rw[h,hr,hcut,if_neg hd,hm];rfl
theorem xG {r:List UInt8}(h:s.drop a=46::r)(hr:br bt r=0):gf s a=aq 7 a (a+1):=by
 have h1:br bt (46::r)=1:=by simp[br,hr,bt,gw,cT,kJ]
 have hcut:fR s a (a+1)=[46]:=by simp[fR,h]
 simp[gf,h,jG,h1,hcut,bt,gw,cT,kJ]
end
theorem jk:∀(n:Nat) (b:Bool) (l:List UInt8),l.length≤n→bB n b l=bB l.length b l:=by
 intro n
 induction n using Nat.strongRecOn with
 |ind n ih=>
  intro b l hl;cases l with
  |nil=>cases n<;>simp[bB]
  |cons c r=>
   obtain⟨m,rfl⟩:∃m,n=m+1:=⟨n-1,by simp at hl;omega⟩;simp only[zak]at hl ⊢;simp only[bB];have e1:∀b (q:List UInt8),q.length≤r.length→bB m b q=bB r.length b q:=λb q hq=>by
    rw[ih m (by omega) b q (by omega)];by_cases h:r.length=m
    ·rw[h,ih m (by omega) b q (by omega)]
    ·rw[ih r.length (by omega) b q hq]
   by_cases h2:cg (c::r)=true
   ·have hp:=zh 0 (c::r) h2;rw[e1 b r (zaa _),e1 b (r.drop (fQ r)) (by simp),e1 _ ((c::r).drop (cy 0 (c::r)).1) (by simp;omega)]
   ·rw[e1 b r (zaa _),e1 b (r.drop (fQ r)) (by simp),if_neg h2,if_neg h2]
def Goes (s:List UInt8)(a:Nat)(ts:List Tok)(b:Nat):Prop:=∀n,aQ (n+ts.length) s a=ts++aQ n s b
theorem Goes.nil {s:List UInt8}{a:Nat}:Goes s a [] a:=λ_n=>rfl
theorem Goes.cons {s:List UInt8}{a b c:Nat}{t:Tok}{ts:List Tok}(h:ax s a=t)(hl:t.lastB=false)(hb:t.dF=c)(hg:Goes s c ts b):Goes s a (t::ts) b:=λn=>by
 show aQ (n+ts.length+1) s a=_;rw[aQ,h,hl];simp only[zav,if_false,hb,hg n,zat]
theorem Goes.trans {s:List UInt8}{a b c:Nat}{ts us:List Tok}(h:Goes s a ts b)(h2:Goes s b us c):Goes s a (ts++us) c:=λn=>by
 have:=h (n+us.length);rw[zaw,show n+(ts.length+us.length)=n+us.length+ts.length by omega,this,h2 n,zaP]
theorem Goes.same {s:List UInt8}{a b:Nat}(h:ax s a=ax s b):Goes s a [] b:=λn=>by
 cases n with
 |zero=>rfl
 |succ n=>
  show aQ (n+1) s a=_;rw[aQ,h];rfl
theorem J0 {s:List UInt8}{a:Nat}{r:List UInt8}(h:s.drop a=10::59::32::106::10::r):ax s a=ax s (a+5):=by
 have h1:s.drop (a+5)=r:=aw h rfl;have e:(bB (10::59::32::106::10::r).length true (10::59::32::106::10::r)).1=5+(bB r.length true r).1:=by
  simp[bB,bK,fQ,jk (r.length+1+1) true r (by omega)];omega
 rw[ak h e,ak h1 rfl,Nat.add_assoc]
theorem FW {s:List UInt8}{a p:Nat}{r:List UInt8}(h:s.drop a=cX p++r)(hr:br bt r=0):Goes s a (jX p a) (a+(cX p).length):=by
 match p with
 |0=>
  have h0:s.drop a=32::98::99::r:=h;have e:ax s a=aZ (a+1) [98,99]:=(ak h0 (k:=1) (by first|(simp[bB,bK,dX];done)|simp[bB,bK,cg])).trans (ct (w:=[98,99]) (r:=r) (by simp) (aw h0 rfl) (by decide) (by decide) (by simp[br,hr,bt,gw]) (by decide) (by decide));exact Goes.cons e rfl rfl Goes.nil
 |1=>
  have h0:s.drop a=32::40::100::32::101::41::r:=h;have h1:s.drop (a+2)=100::32::101::41::r:=aw h0 rfl;have h2:s.drop (a+3)=32::101::41::r:=aw h0 rfl;have h3:s.drop (a+4)=101::41::r:=aw h0 rfl;have h4:s.drop (a+5)=41::r:=aw h0 rfl;have e0:ax s a=aq 2 (a+1) (a+2):=(ak h0 (k:=1) (by first|(simp[bB,bK,dX];done)|simp[bB,bK,cg])).trans (fO (aw h0 rfl));have e1:ax s (a+2)=aZ (a+2) [100]:=(ak h1 (k:=0) (by first|(simp[bB,bK,dX];done)|simp[bB,bK,cg])).trans (ct (w:=[100]) (r:=32::101::41::r) (by simp) h1 (by decide) (by decide) (by simp[br,bt,gw,cT,kJ]) (by decide) (by decide));have e2:ax s (a+3)=aZ (a+4) [101]:=(ak h2 (k:=1) (by first|(simp[bB,bK,dX];done)|simp[bB,bK,cg])).trans (ct (w:=[101]) (r:=41::r) (by simp) h3 (by decide) (by decide) (by simp[br,bt,gw,cT,kJ]) (by decide) (by decide));have e3:ax s (a+5)=aq 3 (a+5) (a+6):=(ak h4 (k:=0) (by first|(simp[bB,bK,dX];done)|simp[bB,bK,cg])).trans (jM h4);exact Goes.cons e0 rfl rfl (Goes.cons e1 rfl rfl (Goes.cons e2 rfl rfl (Goes.cons e3 rfl rfl Goes.nil)))
 |2=>
  have h0:s.drop a=32::35::40::102::41::r:=h;have h1:s.drop (a+3)=102::41::r:=aw h0 rfl;have h2:s.drop (a+4)=41::r:=aw h0 rfl;have e0:ax s a=aq 5 (a+1) (a+3):=(ak h0 (k:=1) (by first|(simp[bB,bK];done)|simp[bB,bK,cg])).trans (Bh (aw h0 rfl));have e1:ax s (a+3)=aZ (a+3) [102]:=(ak h1 (k:=0) (by first|(simp[bB,bK,dX];done)|simp[bB,bK,cg])).trans (ct (w:=[102]) (r:=41::r) (by simp) h1 (by decide) (by decide) (by simp[br,bt,gw,cT,kJ]) (by decide) (by decide));have e2:ax s (a+4)=aq 3 (a+4) (a+5):=(ak h2 (k:=0) (by first|(simp[bB,bK,dX];done)|simp[bB,bK,cg])).trans (jM h2);exact Goes.cons e0 rfl rfl (Goes.cons e1 rfl rfl (Goes.cons e2 rfl rfl Goes.nil))
 |3=>
  have h0:s.drop a=32::39::103::r:=h;have h1:s.drop (a+2)=103::r:=aw h0 rfl;have e0:ax s a=aq 4 (a+1) (a+2):=(ak h0 (k:=1) (by first|(simp[bB,bK,dX];done)|simp[bB,bK,cg])).trans (xF (aw h0 rfl));have e1:ax s (a+2)=aZ (a+2) [103]:=(ak h1 (k:=0) (by first|(simp[bB,bK,dX];done)|simp[bB,bK,cg])).trans (ct (w:=[103]) (r:=r) (by simp) h1 (by decide) (by decide) (by simp[br,hr,bt,gw,cT,kJ]) (by decide) (by decide));exact Goes.cons e0 rfl rfl (Goes.cons e1 rfl rfl Goes.nil)
 |4=>
  have h0:s.drop a=32::40::104::32::46::32::105::41::r:=h;have h1:s.drop (a+2)=104::32::46::32::105::41::r:=aw h0 rfl;have h2:s.drop (a+3)=32::46::32::105::41::r:=aw h0 rfl;have h3:s.drop (a+4)=46::32::105::41::r:=aw h0 rfl;have h4:s.drop (a+5)=32::105::41::r:=aw h0 rfl;have h5:s.drop (a+6)=105::41::r:=aw h0 rfl;have h6:s.drop (a+7)=41::r:=aw h0 rfl;have e0:ax s a=aq 2 (a+1) (a+2):=(ak h0 (k:=1) (by first|(simp[bB,bK,dX];done)|simp[bB,bK,cg])).trans (fO (aw h0 rfl));have e1:ax s (a+2)=aZ (a+2) [104]:=(ak h1 (k:=0) (by first|(simp[bB,bK,dX];done)|simp[bB,bK,cg])).trans (ct (w:=[104]) (r:=32::46::32::105::41::r) (by simp) h1 (by decide) (by decide) (by simp[br,bt,gw,cT,kJ]) (by decide) (by decide));have e2:ax s (a+3)=aq 7 (a+4) (a+5):=(ak h2 (k:=1) (by first|(simp[bB,bK,dX];done)|simp[bB,bK,cg])).trans (xG h3 (by simp[br,bt,gw,cT,kJ]));have e3:ax s (a+5)=aZ (a+6) [105]:=(ak h4 (k:=1) (by first|(simp[bB,bK,dX];done)|simp[bB,bK,cg])).trans (ct (w:=[105]) (r:=41::r) (by simp) h5 (by decide) (by decide) (by simp[br,bt,gw,cT,kJ]) (by decide) (by decide));have e4:ax s (a+7)=aq 3 (a+7) (a+8):=(ak h6 (k:=0) (by first|(simp[bB,bK,dX];done)|simp[bB,bK,cg])).trans (jM h6);exact Goes.cons e0 rfl rfl (Goes.cons e1 rfl rfl (Goes.cons e2 rfl rfl (Goes.cons e3 rfl rfl (Goes.cons e4 rfl rfl Goes.nil))))
 |5=>exact Goes.same (J0 h)
 |6=>
  have h0:s.drop a=32::45::r:=h;have e:ax s a=aZ (a+1) [45]:=(ak h0 (k:=1) (by first|(simp[bB,bK,dX];done)|simp[bB,bK,cg])).trans (ct (w:=[45]) (r:=r) (by simp) (aw h0 rfl) (by decide) (by decide) (by simp[br,hr,bt,gw,cT,kJ]) (by decide) (by decide));exact Goes.cons e rfl rfl Goes.nil
 |7=>
  have h0:s.drop a=32::98::r:=h;have e:ax s a=aZ (a+1) [98]:=(ak h0 (k:=1) (by first|(simp[bB,bK,dX];done)|simp[bB,bK,cg])).trans (ct (w:=[98]) (r:=r) (by simp) (aw h0 rfl) (by decide) (by decide) (by simp[br,hr,bt,gw,cT,kJ]) (by decide) (by decide));exact Goes.cons e rfl rfl Goes.nil
 |n+8=>exact Goes.nil
theorem J1 (p:Nat)(r:List UInt8)(hr:br bt r=0):br bt (cX p++r)=0:=by
 match p with
 |0|1|2|3|4|5|6|7=>simp[cX,br,bt,gw,cT,kJ]
 |n+8=>exact hr
theorem qx:∀(ps:List Nat) (r:List UInt8),br bt r=0→br bt (bN ps++r)=0
 |[],r,h=>h
 |p::ps,r,h=>by
  rw[dE,zaP];exact J1 p _ (qx ps r h)
theorem uh:∀(ps:List Nat) {s:List UInt8} {a:Nat} {r:List UInt8},s.drop a=bN ps++r→br bt r=0→Goes s a (cY ps a) (a+(bN ps).length)
 |[],s,a,r,h,hr=>Goes.nil
 |p::ps,s,a,r,h,hr=>by
  rw[dE,zaP]at h;have h1:s.drop (a+(cX p).length)=bN ps++r:=by rw[←zbm,h];simp
  have:=(FW h (qx ps r hr)).trans (uh ps h1 hr);rw[dE,zaw,←Nat.add_assoc];exact this
section
variable {T:List Tok}{dp:Nat}
theorem kt {n:Nat}{p:Pl}{s:eX}{t:Tok}(h:T[s.k]?=some t)(h0:t.kind≠0)(h1:t.kind≠1)(h6:t.kind≠6):aX T dp (n+1) p s=.ok t { s with k:=s.k+1 }:=by
 rw[aX,h];simp[h0,h1,h6]
theorem xH {n:Nat}{p:Pl}{s:eX}{t:Tok}{data:List Dt}(h:T[s.k]?=some t)(ht:t.kind=3):bD T dp (n+2) data p s=.ok (aW data .nil s.fresh).1 ⟨s.k+1,(aW data .nil s.fresh).2,s.aN⟩:=by
 rw[bD,kt h (by omega) (by omega) (by omega)];simp[RR.bind,ht]
theorem fu {n:Nat}{p:Pl}{s s2:eX}{t:Tok}{data:List Dt}{d:Dt}(h:T[s.k]?=some t)(h0:t.kind≠0)(h1:t.kind≠1)(h6:t.kind≠6)(h3:t.kind≠3)(h7:t.kind≠7)(hf:bG T dp (n+1) t p { s with k:=s.k+1 }=.ok d s2):bD T dp (n+2) data p s=bD T dp (n+1) (data++[d]) p s2:=by
 rw[bD,kt h h0 h1 h6];simp only[RR.bind];rw[if_neg h3,if_neg (λx=>h7 x.1),hf]
theorem Nq {n:Nat}{p:Pl}{s s2:eX}{t u:Tok}{data:List Dt}{d:Dt}(h:T[s.k]?=some t)(h7:t.kind=7)(hd:data≠[])(hf:aM T dp (n+1) p { s with k:=s.k+1 }=.ok d s2)(hu:T[s2.k]?=some u)(h3:u.kind=3):bD T dp (n+2) data p s=.ok (aW data d s2.fresh).1 ⟨s2.k+1,(aW data d s2.fresh).2,s2.aN⟩:=by
 rw[bD,kt h (by omega) (by omega) (by omega)];simp only[RR.bind];rw[if_neg (by omega),if_pos ⟨h7,hd⟩,hf];simp only;rw[kt hu (by omega) (by omega) (by omega)];simp only;rw[if_pos h3]
theorem iW {n:Nat}{p:Pl}{s:eX}{a:Nat}{w:List UInt8}:bG T dp (n+1) (aZ a w) p s=.ok (.sym w) s:=by
 rw[bG];simp[aZ,aq,pO]
theorem zH {n:Nat}{p:Pl}{s:eX}{a:Nat}{w:List UInt8}(h:T[s.k]?=some (aZ a w)):aM T dp (n+2) p s=.ok (.sym w) { s with k:=s.k+1 }:=by
 rw[aM,kt h (by simp[aZ,aq]) (by simp[aZ,aq]) (by simp[aZ,aq])];simp only[RR.bind];rw[iW]
theorem tE {n:Nat}{p:Pl}{s:eX}{a b:Nat}(hd:p.depth≠dp):bG T dp (n+1) (aq 2 a b) p s=bD T dp n [] ⟨p.depth+1,p.passed,[]⟩ s:=by
 rw[bG];simp[aq,hd]
theorem FX {n:Nat}{p:Pl}{s:eX}{a b:Nat}(hd:p.depth≠dp):bG T dp (n+1) (aq 4 a b) p s=(aM T dp n ⟨p.depth+1,p.passed,[]⟩ s).bind λd s=> .ok (aW [.sym [113,117,111,116,101],d] .nil s.fresh).1 { s with fresh:=s.fresh+2 }:=by
 rw[bG];simp[aq,hd]
theorem Nr {n:Nat}{p:Pl}{s:eX}{a b:Nat}(hd:p.depth≠dp):bG T dp (n+1) (aq 5 a b) p s=(dR T dp n [] ⟨p.depth+1,p.passed,[]⟩ { s with fresh:=s.fresh+1 }).bind λl s'=> .ok (.vec s.fresh (lJ l)) s':=by
 rw[bG];simp[aq,hd]
theorem J2 {n:Nat}{p:Pl}{s:eX}{t:Tok}{data:List Dt}(h:T[s.k]?=some t)(ht:t.kind=3):dR T dp (n+2) data p s=.ok data { s with k:=s.k+1 }:=by
 rw[dR,kt h (by omega) (by omega) (by omega)];simp[RR.bind,ht]
theorem Ns {n:Nat}{p:Pl}{s s2:eX}{t:Tok}{data:List Dt}{d:Dt}(h:T[s.k]?=some t)(h0:t.kind≠0)(h1:t.kind≠1)(h6:t.kind≠6)(h3:t.kind≠3)(hl:data.length≠20)(hf:bG T dp (n+1) t p { s with k:=s.k+1 }=.ok d s2):dR T dp (n+2) data p s=dR T dp (n+1) (data++[d]) p s2:=by
 rw[dR,kt h h0 h1 h6];simp only[RR.bind];rw[if_neg h3,if_neg hl,hf]
end
def lM:Nat→Nat→List Dt
 |0,_=>[.sym [98,99]]
 |1,i=>[.pair (i+1) (.sym [100]) (.pair i (.sym [101]) .nil)]
 |2,i=>[.vec i (.ck (.sym [102]) .fj)]
 |3,i=>[.pair (i+1) (.sym [113,117,111,116,101]) (.pair i (.sym [103]) .nil)]
 |4,i=>[.pair i (.sym [104]) (.sym [105])]
 |6,_=>[.sym [45]]
 |7,_=>[.sym [98]]
 |_,_=>[]
def oJ:Nat→Nat
 |1=>2
 |2=>1
 |3=>2
 |4=>1
 |_=>0
def jN:Dt→Nat
 |.pair _ a b=>1+jN a+jN b
 |.vec _ l=>1+jN l
 |.fj=>0
 |.ck a l=>jN a+jN l
 |_=>1
def iX:Dt→Bool
 |.pair _ a b=>iX a&&iX b
 |.vec _ l=>iX l
 |.ck a l=>iX a&&iX l
 |.put _ _=>false
 |.ask _=>false
 |_=>true
section
variable {T:List Tok}
theorem FY {n k i a p:Nat}{data:List Dt}{more:List Tok}(hT:T.drop k=jX p a++more):∃m,n+9≤m∧bD T 5 (n+10) data ⟨1,false,[]⟩ ⟨k,i,[]⟩=bD T 5 m (data++lM p i) ⟨1,false,[]⟩ ⟨k+(jX p a).length,i+oJ p,[]⟩:=by
 have hk:∀j t,(jX p a++more)[j]?=some t→T[k+j]?=some t:=λj t e=>by rw[←hT,zaQ]at e;exact e
 match p with
 |0=>exact⟨n+9,zaa _,fu (hk 0 _ rfl) (by simp[aZ,aq]) (by simp[aZ,aq]) (by simp[aZ,aq]) (by simp[aZ,aq]) (by simp[aZ,aq]) iW⟩
 |6=>exact⟨n+9,zaa _,fu (hk 0 _ rfl) (by simp[aZ,aq]) (by simp[aZ,aq]) (by simp[aZ,aq]) (by simp[aZ,aq]) (by simp[aZ,aq]) iW⟩
 |7=>exact⟨n+9,zaa _,fu (hk 0 _ rfl) (by simp[aZ,aq]) (by simp[aZ,aq]) (by simp[aZ,aq]) (by simp[aZ,aq]) (by simp[aZ,aq]) iW⟩
 |5=>exact⟨n+10,by omega,by simp[lM,jX,oJ]⟩
 |q+8=>exact⟨n+10,by omega,by simp[lM,jX,oJ]⟩
 |1=>
  refine⟨n+9,zaa _,fu (hk 0 _ rfl) (by simp[aq]) (by simp[aq]) (by simp[aq]) (by simp[aq]) (by simp[aq]) ?_⟩;rw[tE (by decide),fu (hk 1 _ rfl) (by simp[aZ,aq]) (by simp[aZ,aq]) (by simp[aZ,aq]) (by simp[aZ,aq]) (by simp[aZ,aq]) iW,fu (hk 2 _ rfl) (by simp[aZ,aq]) (by simp[aZ,aq]) (by simp[aZ,aq]) (by simp[aZ,aq]) (by simp[aZ,aq]) iW,xH (hk 3 _ rfl) rfl];rfl
 |2=>
  refine⟨n+9,zaa _,fu (hk 0 _ rfl) (by simp[aq]) (by simp[aq]) (by simp[aq]) (by simp[aq]) (by simp[aq]) ?_⟩;rw[Nr (by decide),Ns (hk 1 _ rfl) (by simp[aZ,aq]) (by simp[aZ,aq]) (by simp[aZ,aq]) (by simp[aZ,aq]) (by simp) iW,J2 (hk 2 _ rfl) rfl];rfl
 |3=>
  refine⟨n+9,zaa _,fu (hk 0 _ rfl) (by simp[aq]) (by simp[aq]) (by simp[aq]) (by simp[aq]) (by simp[aq]) ?_⟩;rw[FX (by decide),zH (hk 1 _ rfl)];rfl
 |4=>
  refine⟨n+9,zaa _,fu (hk 0 _ rfl) (by simp[aq]) (by simp[aq]) (by simp[aq]) (by simp[aq]) (by simp[aq]) ?_⟩;rw[tE (by decide),fu (hk 1 _ rfl) (by simp[aZ,aq]) (by simp[aZ,aq]) (by simp[aZ,aq]) (by simp[aZ,aq]) (by simp[aZ,aq]) iW,Nq (hk 2 _ rfl) rfl (by simp) (zH (hk 3 _ rfl)) (hk 4 _ rfl) rfl];rfl
def py:List Nat→Nat
 |[]=>0
 |p::ps=>oJ p+py ps
def eY:List Nat→Nat→List Dt
 |[],_=>[]
 |p::ps,i=>lM p i++eY ps (i+oJ p)
theorem ui:∀(ps:List Nat) {n k i a:Nat} {data:List Dt} {more:List Tok},T.drop k=cY ps a++more→ps.length+10≤n→∃m,n≤m+ps.length∧bD T 5 n data ⟨1,false,[]⟩ ⟨k,i,[]⟩=bD T 5 m (data++eY ps i) ⟨1,false,[]⟩ ⟨k+(cY ps a).length,i+py ps,[]⟩
 |[],n,k,i,a,data,more,h,hn=>⟨n,zaa _,by simp[eY,cY,py]⟩
 |p::ps,n,k,i,a,data,more,h,hn=>by
  simp only[zak]at hn;obtain⟨n,rfl⟩:∃m,n=m+10:=⟨n-10,by omega⟩;simp only[cY,zaP]at h;obtain⟨m,hm,e⟩:=FY (n:=n) (i:=i) (data:=data) h;have h2:T.drop (k+(jX p a).length)=cY ps (a+(cX p).length)++more:=by rw[←zbm,h];simp
  obtain⟨m2,Ii,e2⟩:=ui ps (n:=m) (i:=i+oJ p) (data:=data++lM p i) h2 (by omega);refine⟨m2,by simp only[zak];omega,?_⟩;rw[e,e2];simp only[eY,cY,py,zaP,zaw,Nat.add_assoc]
end
def ai (ps:List Nat):List UInt8:=[40,97]++bN ps
def cK (ps:List Nat):List Tok:=[aq 2 0 1,aZ 1 [97]]++cY ps 2
theorem DG {t:List UInt8}{ps:List Nat}{r:List UInt8}(h:t=ai ps++r)(hr:br bt r=0):Goes t 0 (cK ps) (ai ps).length:=by
 have h0:t.drop 0=40::97::(bN ps++r):=by rw[h];simp[ai]
 have h1:t.drop 1=97::(bN ps++r):=by have:=aw (k:=1) h0 rfl;simpa using this
 have h2:t.drop 2=bN ps++r:=by have:=aw (k:=2) h0 rfl;simpa using this
 have hp:=qx ps r hr;have e0:ax t 0=aq 2 0 1:=(ak h0 (k:=0) (by simp[bB,bK,dX])).trans (fO h0);have e1:ax t 1=aZ 1 [97]:=(ak h1 (k:=0) (by simp[bB,bK,dX])).trans (ct (w:=[97]) (r:=bN ps++r) (by simp) h1 (by decide) (by decide) (by simp[br,hp,bt,gw,cT,kJ]) (by decide) (by decide));have:=Goes.cons e0 rfl rfl (Goes.cons e1 rfl rfl (uh ps h2 hr));rw[show(ai ps).length=2+(bN ps).length by simp[ai];omega];exact this
theorem xI {t:List UInt8}{a n:Nat}{e:Tok}(h:ax t a=e)(hl:e.lastB=true):aQ (n+1) t a=[e]:=by rw[aQ,h,if_pos hl]
theorem xJ (ps:List Nat):∃e:Tok,e.kind=0∧∀n,(cK ps).length + 2≤n→aQ n (ai ps++[41]) 0=cK ps++[aq 3 (ai ps).length ((ai ps).length + 1),e]:=by
 refine⟨b9 (ai ps++[41]),rfl,λn hn=>?_⟩;have g1:=DG (t:=ai ps++[41]) (ps:=ps) (r:=[41]) rfl (by decide);have h1:(ai ps++[41]).drop (ai ps).length=[41]:=by simp
 have h2:(ai ps++[41]).drop ((ai ps).length + 1)=[]:=by simp
 have e1:ax (ai ps++[41]) (ai ps).length=aq 3 (ai ps).length ((ai ps).length + 1):=(ak h1 (k:=0) (by decide)).trans (jM h1);have e2:ax (ai ps++[41]) ((ai ps).length + 1)=b9 (ai ps++[41]):=(ak h2 (k:=0) (by decide)).trans (at_end h2);have g2:Goes (ai ps++[41]) 0 (cK ps++[aq 3 (ai ps).length ((ai ps).length + 1)]) ((ai ps).length + 1):=g1.trans (Goes.cons e1 rfl rfl Goes.nil);obtain⟨m,rfl⟩:∃m,n=m+1+(cK ps++[aq 3 (ai ps).length ((ai ps).length + 1)]).length:=⟨n-(cK ps).length - 2,by simp;omega⟩;rw[g2 (m+1),xI e2 rfl];simp
theorem r9 {T:List Tok}(ps:List Nat){more:List Tok}{x y:Nat}(hT:T=cK ps++aq 3 x y::more)(hl:ps.length≤20):∃i,aM T 5 2000 ⟨0,false,[]⟩ ⟨0,0,[]⟩=.ok (aW (.sym [97]::eY ps 0) .nil i).1 ⟨(cK ps).length + 1,(aW (.sym [97]::eY ps 0) .nil i).2,[]⟩:=by
 have t0:T[0]?=some (aq 2 0 1):=by rw[hT];rfl
 have t1:T[1]?=some (aZ 1 [97]):=by rw[hT];rfl
 have hd:T.drop 2=cY ps 2++aq 3 x y::more:=by rw[hT];rfl
 have tc:T[2+(cY ps 2).length]?=some (aq 3 x y):=by rw[←zaQ,hd];simp
 have e0:aM T 5 2000 ⟨0,false,[]⟩ ⟨0,0,[]⟩=bD T 5 1998 [] ⟨1,false,[]⟩ ⟨1,0,[]⟩:=by
  rw[show 2000=1999+1 from rfl,aM,show 1999=1998+1 from rfl,kt (s:=⟨0,0,[]⟩) t0 (by decide) (by decide) (by decide)];simp only[RR.bind];rw[tE (by decide)]
 have e1:bD T 5 1998 [] ⟨1,false,[]⟩ ⟨1,0,[]⟩=bD T 5 1997 [.sym [97]] ⟨1,false,[]⟩ ⟨2,0,[]⟩:=fu (n:=1996) (s:=⟨1,0,[]⟩) t1 (by decide) (by decide) (by decide) (by decide) (by decide) iW;obtain⟨m,hm,e2⟩:=ui (T:=T) ps (n:=1997) (i:=0) (data:=[.sym [97]]) hd (by omega);obtain⟨m,rfl⟩:∃q,m=q+2:=⟨m-2,by omega⟩;refine⟨0+py ps,?_⟩;rw[e0,e1,e2,xH (s:=⟨2+(cY ps 2).length,0+py ps,[]⟩) tc rfl];have:(cK ps).length=2+(cY ps 2).length:=by simp[cK];omega
 rw[this];rfl
def fY {α:Type}(N:Nat)(E:Int)(F:Nat)(x x':RR α):Prop:=∀a s',x=.ok a s'→(s'.k≤N→x'=.ok a s')∧(N<s'.k→x'=.fail E F)
theorem fY.bind {α β:Type}{N:Nat}{E:Int}{F:Nat}{x x':RR α}{f f':α→eX→RR β}(h:fY N E F x x')(hf:∀a s1,x=.ok a s1→s1.k≤N→fY N E F (f a s1) (f' a s1))(hm:∀a s1 b s',x=.ok a s1→f a s1=.ok b s'→s1.k≤s'.k):fY N E F (x.bind f) (x'.bind f'):=by
 intro b s' hb;obtain⟨a,s1,e1,e2⟩:=RR.bA hb;by_cases hk:s1.k≤N
 ·rw[(h a s1 e1).1 hk];exact hf a s1 e1 hk b s' e2
 ·have:=hm a s1 b s' e1 e2;rw[(h a s1 e1).2 (by omega)];exact⟨λ_=>by omega,λ_=>rfl⟩
theorem fY.fail {α:Type}{N:Nat}{E:Int}{F:Nat}{e:Int}{a:Nat}{x':RR α}:fY N E F (.fail e a) x':=λ_ _ h=>by cases h
theorem fY.out {α:Type}{N:Nat}{E:Int}{F:Nat}{x':RR α}:fY N E F .out x':=λ_ _ h=>by cases h
theorem fY.ok {α:Type}{N:Nat}{E:Int}{F:Nat}{a:α}{s:eX}(h:s.k≤N):fY N E F (.ok a s) (.ok a s):=λb s' e=>by
 cases e;exact⟨λ_=>rfl,λh'=>by omega⟩
section
variable (P Q:List Tok)(e:Tok)(dp:Nat)
structure Vy (N:Nat) (E:Int) (F:Nat) (n:Nat):Prop where
 datum:∀p s,s.k≤N→fY N E F (aM (P++Q) dp n p s) (aM (P++[e]) dp n p s)
 take:∀p s,s.k≤N→fY N E F (aX (P++Q) dp n p s) (aX (P++[e]) dp n p s)
 sj:∀t p s,s.k≤N→t∈P++Q→fY N E F (bG (P++Q) dp n t p s) (bG (P++[e]) dp n t p s)
 list:∀data p s,s.k≤N→fY N E F (bD (P++Q) dp n data p s) (bD (P++[e]) dp n data p s)
 vec:∀data p s,s.k≤N→fY N E F (dR (P++Q) dp n data p s) (dR (P++[e]) dp n data p s)
structure ab4 (T:List Tok) (dp n:Nat):Prop where
 datum:∀p s d s',aM T dp n p s=.ok d s'→s.k≤s'.k
 take:∀p s t s',aX T dp n p s=.ok t s'→s.k≤s'.k∧t∈T
 sj:∀t p s d s',bG T dp n t p s=.ok d s'→s.k≤s'.k
 list:∀data p s d s',bD T dp n data p s=.ok d s'→s.k≤s'.k
 vec:∀data p s l s',dR T dp n data p s=.ok l s'→s.k≤s'.k
theorem DI (T:List Tok)(dp:Nat):∀n,ab4 T dp n
 |0=>by
  refine⟨λp s d s' h=>?_,λp s t s' h=>?_,λt p s d s' h=>?_,λdata p s d s' h=>?_,λdata p s d s' h=>?_⟩;all_goals first
   |(unfold aM at h;cases h)
   |(unfold aX at h;cases h)
   |(unfold bG at h;cases h)
   |(unfold bD at h;cases h)
   |(unfold dR at h;cases h)
 |n+1=>by
  have ih:=DI T dp n;refine⟨λp s d s' h=>?_,λp s t s' h=>?_,λt p s d s' h=>?_,λdata p s d s' h=>?_,λdata p s d s' h=>?_⟩
  ·unfold aM at h;obtain⟨t,s1,h1,h2⟩:=RR.bA h;exact zad (ih.take _ _ _ _ h1).1 (ih.sj _ _ _ _ _ h2)
  ·unfold aX at h;split at h
   ·cases h
   ·rename_i t0 ht0;repeat' split at h
    ·cases h
    ·cases h
    ·obtain⟨d,s1,h1,h2⟩:=RR.bA h;have a:=ih.datum _ _ _ _ h1;have b:=ih.take _ _ _ _ h2;simp only at a;exact⟨by omega,b.2⟩
    ·cases h;exact⟨by simp,zbD ht0⟩
  ·unfold bG at h;repeat' split at h
   all_goals first
    |(cases h;done)
    |(cases h;exact zaa _)
    |(obtain⟨d1,s1,h1,h2⟩:=RR.bA h
      cases h2;have:=ih.datum _ _ _ _ h1;exact this)
    |(obtain⟨d1,s1,h1,h2⟩:=RR.bA h
      cases h2;have:=ih.vec _ _ _ _ _ h1;exact this)
    |exact ih.list _ _ _ _ _ h
    |skip
   unfold pO at h;repeat' split at h
   all_goals (cases h;try exact zaa _)
  ·unfold bD at h;obtain⟨t,s1,h1,h2⟩:=RR.bA h;have a:=(ih.take _ _ _ _ h1).1;split at h2
   ·cases h2;exact a
   ·split at h2
    ·obtain⟨d2,s2,h3,h4⟩:=RR.bA h2;obtain⟨t3,s3,h5,h6⟩:=RR.bA h4;have b:=ih.datum _ _ _ _ h3;have c:=(ih.take _ _ _ _ h5).1;split at h6
     ·cases h6;show s.k≤s3.k;omega
     ·cases h6
    ·obtain⟨d2,s2,h3,h4⟩:=RR.bA h2;have b:=ih.sj _ _ _ _ _ h3;have c:=ih.list _ _ _ _ _ h4;omega
  ·unfold dR at h;obtain⟨t,s1,h1,h2⟩:=RR.bA h;have a:=(ih.take _ _ _ _ h1).1;split at h2
   ·cases h2;exact a
   ·split at h2
    ·cases h2
    ·obtain⟨d2,s2,h3,h4⟩:=RR.bA h2;have b:=ih.sj _ _ _ _ _ h3;have c:=ih.vec _ _ _ _ _ h4;omega
theorem Hq (he:e.kind=0∨e.kind=1):∀n,Vy P Q e dp P.length (if e.kind=0 then 4 else 3) e.from_ n
 |0=>by
  refine⟨λp s _=>?_,λp s _=>?_,λt p s _ _=>?_,λdata p s _=>?_,λdata p s _=>?_⟩;all_goals first
   |(unfold aM;exact fY.out)
   |(unfold aX;exact fY.out)
   |(unfold bG;exact fY.out)
   |(unfold bD;exact fY.out)
   |(unfold dR;exact fY.out)
 |n+1=>by
  have ih:=Hq he n;generalize hE:(if e.kind=0 then(4:Int)else 3)=E at ih ⊢;have mo:=DI (P++Q) dp n;refine⟨λp s hk=>?_,λp s hk=>?_,λt p s hk ht=>?_,λdata p s hk=>?_,λdata p s hk=>?_⟩
  ·unfold aM;exact(ih.take p s hk).bind (λt s1 h1 xQ=>ih.sj t p s1 xQ (mo.take _ _ _ _ h1).2) (λa s1 b s' h1 h2=>mo.sj _ _ _ _ _ h2)
  ·by_cases hlt:s.k<P.length
   ·have e1:(P++Q)[s.k]?=some P[s.k]:=by rw[zaF hlt,zai hlt]
    have e2:(P++[e])[s.k]?=some P[s.k]:=by rw[zaF hlt,zai hlt]
    unfold aX;rw[e1,e2];dsimp only;split
    ·exact fY.fail
    ·split
     ·exact fY.fail
     ·split
      ·exact(ih.datum _ { s with k:=s.k+1 } (by show s.k+1≤_;omega)).bind (λd s1 h1 xQ=>ih.take p s1 xQ) (λa s1 b s' h1 h2=>(mo.take _ _ _ _ h2).1)
      ·exact fY.ok (by show s.k+1≤_;omega)
   ·have e2:(P++[e])[s.k]?=some e:=by
     rw[show s.k=P.length by omega];simp
    intro t s' h;have h3:s.k+1≤s'.k:=by
     unfold aX at h;split at h
     ·cases h
     ·repeat' split at h
      ·cases h
      ·cases h
      ·obtain⟨d,s1,h1,h2⟩:=RR.bA h;have a:=mo.datum _ _ _ _ h1;have b:=(mo.take _ _ _ _ h2).1;simp only at a;omega
      ·cases h;simp
    refine⟨λ_=>by omega,λ_=>?_⟩;unfold aX;rw[e2];dsimp only;rcases he with h0|h1
    ·rw[←hE];simp[h0]
    ·rw[←hE];simp[h1]
  ·unfold bG;split
   ·exact fY.fail
   ·split
    ·split
     ·exact fY.fail
     ·split
      ·exact fY.fail
      ·exact(ih.datum _ { s with aN:=t.n::s.aN } hk).bind (λd s1 h1 xQ=>fY.ok xQ) (λa s1 b s' h1 h2=>by cases h2;exact zaa _)
    ·split
     ·split
      ·exact fY.fail
      ·exact fY.ok hk
     ·split
      ·split
       ·exact fY.fail
       ·split
        ·exact(ih.vec [] _ { s with fresh:=s.fresh+1 } hk).bind (λd s1 h1 xQ=>fY.ok xQ) (λa s1 b s' h1 h2=>by cases h2;exact zaa _)
        ·split
         ·exact(ih.datum _ s hk).bind (λd s1 h1 xQ=>fY.ok xQ) (λa s1 b s' h1 h2=>by cases h2;exact zaa _)
         ·exact ih.list [] _ s hk
      ·intro d s' h;have hs:s'.k=s.k:=by
        unfold pO at h;repeat' split at h
        all_goals (cases h;try rfl)
       exact⟨λ_=>h,λh'=>by omega⟩
  ·unfold bD;refine(ih.take p s hk).bind (λt s1 h1 xQ=>?_) (λt s1 b s' h1 h2=>?_)
   ·split
    ·exact fY.ok xQ
    ·split
     ·refine(ih.datum p s1 xQ).bind (λd s2 h2 hk2=>?_) (λd s2 b s' h2 h3=>?_)
      ·refine(ih.take p s2 hk2).bind (λt3 s3 h3 hk3=>?_) (λt3 s3 b s' h3 h4=>?_)
       ·split
        ·exact fY.ok hk3
        ·exact fY.fail
       ·split at h4
        ·cases h4;exact zaa _
        ·cases h4
      ·obtain⟨t3,s3,h5,h6⟩:=RR.bA h3;have:=(mo.take _ _ _ _ h5).1;split at h6
       ·cases h6;exact this
       ·cases h6
     ·exact(ih.sj t p s1 xQ (mo.take _ _ _ _ h1).2).bind (λd s2 h2 hk2=>ih.list _ p s2 hk2) (λd s2 b s' h2 h3=>mo.list _ _ _ _ _ h3)
   ·split at h2
    ·cases h2;exact zaa _
    ·split at h2
     ·obtain⟨d2,s2,h3,h4⟩:=RR.bA h2;obtain⟨t3,s3,h5,h6⟩:=RR.bA h4;have b:=mo.datum _ _ _ _ h3;have c:=(mo.take _ _ _ _ h5).1;split at h6
      ·cases h6;show s1.k≤s3.k;omega
      ·cases h6
     ·obtain⟨d2,s2,h3,h4⟩:=RR.bA h2;have b:=mo.sj _ _ _ _ _ h3;have c:=mo.list _ _ _ _ _ h4;omega
  ·unfold dR;refine(ih.take p s hk).bind (λt s1 h1 xQ=>?_) (λt s1 b s' h1 h2=>?_)
   ·split
    ·exact fY.ok xQ
    ·split
     ·exact fY.fail
     ·exact(ih.sj t p s1 xQ (mo.take _ _ _ _ h1).2).bind (λd s2 h2 hk2=>ih.vec _ p s2 hk2) (λd s2 b s' h2 h3=>mo.vec _ _ _ _ _ h3)
   ·split at h2
    ·cases h2;exact zaa _
    ·split at h2
     ·cases h2
     ·obtain⟨d2,s2,h3,h4⟩:=RR.bA h2;have b:=mo.sj _ _ _ _ _ h3;have c:=mo.vec _ _ _ _ _ h4;omega
end
theorem oK:∀(ps:List Nat) (a:Nat),(cY ps a).length≤(bN ps).length
 |[],a=>zaa _
 |p::ps,a=>by
  have h1:(jX p a).length≤(cX p).length:=by
   match p with
   |0|1|2|3|4|5|6|7=>simp[jX,cX]
   |n+8=>simp[jX,cX]
  have:=oK ps (a+(cX p).length);simp only[cY,dE,zaw];omega
theorem zI (p:Nat):(cX p).length≤8:=by
 match p with
 |0|1|2|3|4|5|6|7=>simp[cX]
 |n+8=>simp[cX]
theorem nj:∀(ps:List Nat),(bN ps).length≤8*ps.length
 |[]=>zaa _
 |p::ps=>by
  have:=zI p;have:=nj ps;simp only[dE,zaw,zak];omega
theorem jO (ps:List Nat):(ai ps).length=2+(bN ps).length:=by simp[ai];omega
theorem Vz (ps:List Nat)(hl:ps.length≤20){t:List UInt8}{P Q:List Tok}{e:Tok}(hP:cK ps=P++Q)(he:e.kind=0∨e.kind=1)(hg:aQ (t.length+1) t 0=P++[e])(ht:t.length≤400):bJ t 5=some ([],e.from_,if e.kind=0 then 4 else 3):=by
 obtain⟨i,hr⟩:=r9 (T:=P++(Q++[aq 3 0 0])) ps (more:=[]) (x:=0) (y:=0) (by rw[hP,zaP]) hl;have hc:=((Hq P (Q++[aq 3 0 0]) e 5 he 2000).datum ⟨0,false,[]⟩ ⟨0,0,[]⟩ (zaj _) _ _ hr).2 (by
  show P.length<(cK ps).length + 1;rw[hP,zaw];omega)
 unfold bJ;rw[if_neg (by omega),if_neg (by omega),hg];show(match aM (P++[e]) 5 2000 ⟨0,false,[]⟩ ⟨0,0,[]⟩with|.out=>none|.fail e a=>some ([],a,e)|.ok d s=>_)=_;rw[hc]
theorem bI {aA:List Nat}{p a b:Nat}{tail:List UInt8}{part Q:List Tok}{e:Tok}(hl:aA.length+1≤20)(ha:a=(ai aA).length)(hk:jX p a=part++Q)(hrun:br bt tail=0)(g:Goes (ai aA++tail) a part b)(hb:ax (ai aA++tail) b=e)(he:e.kind=0∨e.kind=1)(hlen:part.length≤tail.length)(htl:tail.length≤8):bJ (ai aA++tail) 5=some ([],e.from_,if e.kind=0 then 4 else 3):=by
 have h0:=oK aA 2;have h8:=nj aA;have eG:=jO aA;have hct:(cK aA).length=2+(cY aA 2).length:=by simp[cK];omega
 refine Vz (aA++[p]) (by simp;omega) (P:=cK aA++part) (Q:=Q) ?_ he ?_ (by rw[zaw];omega)
 ·simp only[cK,oI,cY,List.append_nil,zaP];rw[←hk,ha,eG]
 ·have g2:=(DG (t:=ai aA++tail) (ps:=aA) (r:=tail) rfl hrun).trans (ha▸g);obtain⟨m,hm⟩:∃m,(ai aA++tail).length + 1=m+1+(cK aA++part).length:=⟨(ai aA++tail).length - (cK aA++part).length,by simp only[zaw];omega⟩;rw[hm,g2 (m+1),xI hb (by rcases he with h|h<;>simp[Tok.lastB,h])]
theorem DJ:∀(ps:List Nat) (k:Nat),0<k→k≤(bN ps).length→∃aA p Tg r,ps=aA++p::Tg∧0<r∧r≤(cX p).length∧k=(bN aA).length + r
 |[],k,h1,h2=>by simp[bN]at h2;omega
 |p::ps,k,h1,h2=>by
  by_cases h:k≤(cX p).length
  ·exact⟨[],p,ps,k,rfl,h1,h,by simp[bN]⟩
  ·rw[dE,zaw]at h2;obtain⟨aA,q,Tg,r,e,h3,h4,h5⟩:=DJ ps (k-(cX p).length) (by omega) (by omega);exact⟨p::aA,q,Tg,r,by rw[e];rfl,h3,h4,by rw[dE,zaw];omega⟩
theorem Ra (aA:List Nat)(hl:aA.length+1≤20):bJ (ai aA++[32]) 5=some ([],(ai aA).length + 1,4):=by
 generalize ha:(ai aA).length=a;have h:(ai aA++[32]).drop a=[32]:=by rw[←ha];simp
 have h1:=aw (k:=1) h rfl;have ee:=(ak h (k:=1) (by decide)).trans (at_end (by simpa using h1));have key:=bI (p:=0) (part:=[]) (Q:=[aZ (a+1) [98,99]]) hl ha.symm rfl (by decide) Goes.nil ee (Or.inl rfl) (by simp) (by simp);rw[key];simp[b9,aq,ha]
theorem Rb (aA:List Nat)(hl:aA.length+1≤20):bJ (ai aA++[32,98]) 5=some ([],(ai aA).length + 2,4):=by
 generalize ha:(ai aA).length=a;have h:(ai aA++[32,98]).drop a=[32,98]:=by rw[←ha];simp
 have h1:=aw (k:=1) h rfl;have h2:=aw (k:=2) h rfl;have e0:=(ak h (k:=1) (by decide)).trans (ct (w:=[98]) (r:=[]) (by simp) h1 rfl rfl rfl rfl (by decide));have ee:=(ak h2 (k:=0) (by decide)).trans (at_end (by simpa using h2));have key:=bI (p:=7) (part:=[aZ (a+1) [98]]) (Q:=[]) hl ha.symm rfl (by decide) (Goes.cons e0 rfl rfl Goes.nil) ee (Or.inl rfl) (by simp) (by simp);rw[key];simp[b9,aq,ha]
theorem Re (aA:List Nat)(hl:aA.length+1≤20):bJ (ai aA++[32,98,99]) 5=some ([],(ai aA).length + 3,4):=by
 generalize ha:(ai aA).length=a;have h:(ai aA++[32,98,99]).drop a=[32,98,99]:=by rw[←ha];simp
 have h1:=aw (k:=1) h rfl;have h3:=aw (k:=3) h rfl;have e0:=(ak h (k:=1) (by decide)).trans (ct (w:=[98,99]) (r:=[]) (by simp) h1 rfl rfl rfl rfl (by decide));have ee:=(ak h3 (k:=0) (by decide)).trans (at_end (by simpa using h3));have key:=bI (p:=0) (part:=[aZ (a+1) [98,99]]) (Q:=[]) hl ha.symm rfl (by decide) (Goes.cons e0 rfl rfl Goes.nil) ee (Or.inl rfl) (by simp) (by simp);rw[key];simp[b9,aq,ha]
theorem Rg (aA:List Nat)(hl:aA.length+1≤20):bJ (ai aA++[32,40]) 5=some ([],(ai aA).length + 2,4):=by
 generalize ha:(ai aA).length=a;have h:(ai aA++[32,40]).drop a=[32,40]:=by rw[←ha];simp
 have h1:=aw (k:=1) h rfl;have h2:=aw (k:=2) h rfl;have e0:=(ak h (k:=1) (by decide)).trans (fO h1);have ee:=(ak h2 (k:=0) (by decide)).trans (at_end (by simpa using h2));have key:=bI (p:=1) (part:=[aq 2 (a+1) (a+2)]) (Q:=[aZ (a+2) [100],aZ (a+4) [101],aq 3 (a+5) (a+6)]) hl ha.symm rfl (by decide) (Goes.cons e0 rfl rfl Goes.nil) ee (Or.inl rfl) (by simp) (by simp);rw[key];simp[b9,aq,ha]
theorem Rh (aA:List Nat)(hl:aA.length+1≤20):bJ (ai aA++[32,40,100]) 5=some ([],(ai aA).length + 3,4):=by
 generalize ha:(ai aA).length=a;have h:(ai aA++[32,40,100]).drop a=[32,40,100]:=by rw[←ha];simp
 have h1:=aw (k:=1) h rfl;have h2:=aw (k:=2) h rfl;have h3:=aw (k:=3) h rfl;have e0:=(ak h (k:=1) (by decide)).trans (fO h1);have e1:=(ak h2 (k:=0) (by decide)).trans (ct (w:=[100]) (r:=[]) (by simp) h2 rfl rfl rfl rfl (by decide));have ee:=(ak h3 (k:=0) (by decide)).trans (at_end (by simpa using h3));have key:=bI (p:=1) (part:=[aq 2 (a+1) (a+2),aZ (a+2) [100]]) (Q:=[aZ (a+4) [101],aq 3 (a+5) (a+6)]) hl ha.symm rfl (by decide) (Goes.cons e0 rfl rfl (Goes.cons e1 rfl rfl Goes.nil)) ee (Or.inl rfl) (by simp) (by simp);rw[key];simp[b9,aq,ha]
theorem Ri (aA:List Nat)(hl:aA.length+1≤20):bJ (ai aA++[32,40,100,32]) 5=some ([],(ai aA).length + 4,4):=by
 generalize ha:(ai aA).length=a;have h:(ai aA++[32,40,100,32]).drop a=[32,40,100,32]:=by rw[←ha];simp
 have h1:=aw (k:=1) h rfl;have h2:=aw (k:=2) h rfl;have h3:=aw (k:=3) h rfl;have h4:=aw (k:=4) h rfl;have e0:=(ak h (k:=1) (by decide)).trans (fO h1);have e1:=(ak h2 (k:=0) (by decide)).trans (ct (w:=[100]) (r:=[32]) (by simp) h2 rfl rfl rfl rfl (by decide));have ee:=(ak h3 (k:=1) (by decide)).trans (at_end (by simpa using h4));have key:=bI (p:=1) (part:=[aq 2 (a+1) (a+2),aZ (a+2) [100]]) (Q:=[aZ (a+4) [101],aq 3 (a+5) (a+6)]) hl ha.symm rfl (by decide) (Goes.cons e0 rfl rfl (Goes.cons e1 rfl rfl Goes.nil)) ee (Or.inl rfl) (by simp) (by simp);rw[key];simp[b9,aq,ha]
theorem Rj (aA:List Nat)(hl:aA.length+1≤20):bJ (ai aA++[32,40,100,32,101]) 5=some ([],(ai aA).length + 5,4):=by
 generalize ha:(ai aA).length=a;have h:(ai aA++[32,40,100,32,101]).drop a=[32,40,100,32,101]:=by rw[←ha];simp
 have h1:=aw (k:=1) h rfl;have h2:=aw (k:=2) h rfl;have h3:=aw (k:=3) h rfl;have h4:=aw (k:=4) h rfl;have h5:=aw (k:=5) h rfl;have e0:=(ak h (k:=1) (by decide)).trans (fO h1);have e1:=(ak h2 (k:=0) (by decide)).trans (ct (w:=[100]) (r:=[32,101]) (by simp) h2 rfl rfl rfl rfl (by decide));have e2:=(ak h3 (k:=1) (by decide)).trans (ct (w:=[101]) (r:=[]) (by simp) h4 rfl rfl rfl rfl (by decide));have ee:=(ak h5 (k:=0) (by decide)).trans (at_end (by simpa using h5));have key:=bI (p:=1) (part:=[aq 2 (a+1) (a+2),aZ (a+2) [100],aZ (a+4) [101]]) (Q:=[aq 3 (a+5) (a+6)]) hl ha.symm rfl (by decide) (Goes.cons e0 rfl rfl (Goes.cons e1 rfl rfl (Goes.cons e2 rfl rfl Goes.nil))) ee (Or.inl rfl) (by simp) (by simp);rw[key];simp[b9,aq,ha]
theorem Rk (aA:List Nat)(hl:aA.length+1≤20):bJ (ai aA++[32,40,100,32,101,41]) 5=some ([],(ai aA).length + 6,4):=by
 generalize ha:(ai aA).length=a;have h:(ai aA++[32,40,100,32,101,41]).drop a=[32,40,100,32,101,41]:=by rw[←ha];simp
 have h1:=aw (k:=1) h rfl;have h2:=aw (k:=2) h rfl;have h3:=aw (k:=3) h rfl;have h4:=aw (k:=4) h rfl;have h5:=aw (k:=5) h rfl;have h6:=aw (k:=6) h rfl;have e0:=(ak h (k:=1) (by decide)).trans (fO h1);have e1:=(ak h2 (k:=0) (by decide)).trans (ct (w:=[100]) (r:=[32,101,41]) (by simp) h2 rfl rfl rfl rfl (by decide));have e2:=(ak h3 (k:=1) (by decide)).trans (ct (w:=[101]) (r:=[41]) (by simp) h4 rfl rfl rfl rfl (by decide));have e3:=(ak h5 (k:=0) (by decide)).trans (jM h5);have ee:=(ak h6 (k:=0) (by decide)).trans (at_end (by simpa using h6));have key:=bI (p:=1) (part:=[aq 2 (a+1) (a+2),aZ (a+2) [100],aZ (a+4) [101],aq 3 (a+5) (a+6)]) (Q:=[]) hl ha.symm rfl (by decide) (Goes.cons e0 rfl rfl (Goes.cons e1 rfl rfl (Goes.cons e2 rfl rfl (Goes.cons e3 rfl rfl Goes.nil)))) ee (Or.inl rfl) (by simp) (by simp);rw[key];simp[b9,aq,ha]
theorem Rm (aA:List Nat)(hl:aA.length+1≤20):bJ (ai aA++[32,35]) 5=some ([],(ai aA).length + 1,3):=by
 generalize ha:(ai aA).length=a;have h:(ai aA++[32,35]).drop a=[32,35]:=by rw[←ha];simp
 have h1:=aw (k:=1) h rfl;have h2:=aw (k:=2) h rfl;have ee:=(ak h (k:=1) (by decide)).trans (Q9 h1);have key:=bI (p:=2) (part:=[]) (Q:=[aq 5 (a+1) (a+3),aZ (a+3) [102],aq 3 (a+4) (a+5)]) hl ha.symm rfl (by decide) Goes.nil ee (Or.inr rfl) (by simp) (by simp);exact key
theorem Ro (aA:List Nat)(hl:aA.length+1≤20):bJ (ai aA++[32,35,40]) 5=some ([],(ai aA).length + 3,4):=by
 generalize ha:(ai aA).length=a;have h:(ai aA++[32,35,40]).drop a=[32,35,40]:=by rw[←ha];simp
 have h1:=aw (k:=1) h rfl;have h3:=aw (k:=3) h rfl;have e0:=(ak h (k:=1) (by decide)).trans (Bh h1);have ee:=(ak h3 (k:=0) (by decide)).trans (at_end (by simpa using h3));have key:=bI (p:=2) (part:=[aq 5 (a+1) (a+3)]) (Q:=[aZ (a+3) [102],aq 3 (a+4) (a+5)]) hl ha.symm rfl (by decide) (Goes.cons e0 rfl rfl Goes.nil) ee (Or.inl rfl) (by simp) (by simp);rw[key];simp[b9,aq,ha]
theorem Rp (aA:List Nat)(hl:aA.length+1≤20):bJ (ai aA++[32,35,40,102]) 5=some ([],(ai aA).length + 4,4):=by
 generalize ha:(ai aA).length=a;have h:(ai aA++[32,35,40,102]).drop a=[32,35,40,102]:=by rw[←ha];simp
 have h1:=aw (k:=1) h rfl;have h3:=aw (k:=3) h rfl;have h4:=aw (k:=4) h rfl;have e0:=(ak h (k:=1) (by decide)).trans (Bh h1);have e1:=(ak h3 (k:=0) (by decide)).trans (ct (w:=[102]) (r:=[]) (by simp) h3 rfl rfl rfl rfl (by decide));have ee:=(ak h4 (k:=0) (by decide)).trans (at_end (by simpa using h4));have key:=bI (p:=2) (part:=[aq 5 (a+1) (a+3),aZ (a+3) [102]]) (Q:=[aq 3 (a+4) (a+5)]) hl ha.symm rfl (by decide) (Goes.cons e0 rfl rfl (Goes.cons e1 rfl rfl Goes.nil)) ee (Or.inl rfl) (by simp) (by simp);rw[key];simp[b9,aq,ha]
theorem Rq (aA:List Nat)(hl:aA.length+1≤20):bJ (ai aA++[32,35,40,102,41]) 5=some ([],(ai aA).length + 5,4):=by
 generalize ha:(ai aA).length=a;have h:(ai aA++[32,35,40,102,41]).drop a=[32,35,40,102,41]:=by rw[←ha];simp
 have h1:=aw (k:=1) h rfl;have h3:=aw (k:=3) h rfl;have h4:=aw (k:=4) h rfl;have h5:=aw (k:=5) h rfl;have e0:=(ak h (k:=1) (by decide)).trans (Bh h1);have e1:=(ak h3 (k:=0) (by decide)).trans (ct (w:=[102]) (r:=[41]) (by simp) h3 rfl rfl rfl rfl (by decide));have e2:=(ak h4 (k:=0) (by decide)).trans (jM h4);have ee:=(ak h5 (k:=0) (by decide)).trans (at_end (by simpa using h5));have key:=bI (p:=2) (part:=[aq 5 (a+1) (a+3),aZ (a+3) [102],aq 3 (a+4) (a+5)]) (Q:=[]) hl ha.symm rfl (by decide) (Goes.cons e0 rfl rfl (Goes.cons e1 rfl rfl (Goes.cons e2 rfl rfl Goes.nil))) ee (Or.inl rfl) (by simp) (by simp);rw[key];simp[b9,aq,ha]
theorem Ru (aA:List Nat)(hl:aA.length+1≤20):bJ (ai aA++[32,39]) 5=some ([],(ai aA).length + 2,4):=by
 generalize ha:(ai aA).length=a;have h:(ai aA++[32,39]).drop a=[32,39]:=by rw[←ha];simp
 have h1:=aw (k:=1) h rfl;have h2:=aw (k:=2) h rfl;have e0:=(ak h (k:=1) (by decide)).trans (xF h1);have ee:=(ak h2 (k:=0) (by decide)).trans (at_end (by simpa using h2));have key:=bI (p:=3) (part:=[aq 4 (a+1) (a+2)]) (Q:=[aZ (a+2) [103]]) hl ha.symm rfl (by decide) (Goes.cons e0 rfl rfl Goes.nil) ee (Or.inl rfl) (by simp) (by simp);rw[key];simp[b9,aq,ha]
theorem Rv (aA:List Nat)(hl:aA.length+1≤20):bJ (ai aA++[32,39,103]) 5=some ([],(ai aA).length + 3,4):=by
 generalize ha:(ai aA).length=a;have h:(ai aA++[32,39,103]).drop a=[32,39,103]:=by rw[←ha];simp
 have h1:=aw (k:=1) h rfl;have h2:=aw (k:=2) h rfl;have h3:=aw (k:=3) h rfl;have e0:=(ak h (k:=1) (by decide)).trans (xF h1);have e1:=(ak h2 (k:=0) (by decide)).trans (ct (w:=[103]) (r:=[]) (by simp) h2 rfl rfl rfl rfl (by decide));have ee:=(ak h3 (k:=0) (by decide)).trans (at_end (by simpa using h3));have key:=bI (p:=3) (part:=[aq 4 (a+1) (a+2),aZ (a+2) [103]]) (Q:=[]) hl ha.symm rfl (by decide) (Goes.cons e0 rfl rfl (Goes.cons e1 rfl rfl Goes.nil)) ee (Or.inl rfl) (by simp) (by simp);rw[key];simp[b9,aq,ha]
theorem Ry (aA:List Nat)(hl:aA.length+1≤20):bJ (ai aA++[32,40,104]) 5=some ([],(ai aA).length + 3,4):=by
 generalize ha:(ai aA).length=a;have h:(ai aA++[32,40,104]).drop a=[32,40,104]:=by rw[←ha];simp
 have h1:=aw (k:=1) h rfl;have h2:=aw (k:=2) h rfl;have h3:=aw (k:=3) h rfl;have e0:=(ak h (k:=1) (by decide)).trans (fO h1);have e1:=(ak h2 (k:=0) (by decide)).trans (ct (w:=[104]) (r:=[]) (by simp) h2 rfl rfl rfl rfl (by decide));have ee:=(ak h3 (k:=0) (by decide)).trans (at_end (by simpa using h3));have key:=bI (p:=4) (part:=[aq 2 (a+1) (a+2),aZ (a+2) [104]]) (Q:=[aq 7 (a+4) (a+5),aZ (a+6) [105],aq 3 (a+7) (a+8)]) hl ha.symm rfl (by decide) (Goes.cons e0 rfl rfl (Goes.cons e1 rfl rfl Goes.nil)) ee (Or.inl rfl) (by simp) (by simp);rw[key];simp[b9,aq,ha]
theorem Rz (aA:List Nat)(hl:aA.length+1≤20):bJ (ai aA++[32,40,104,32]) 5=some ([],(ai aA).length + 4,4):=by
 generalize ha:(ai aA).length=a;have h:(ai aA++[32,40,104,32]).drop a=[32,40,104,32]:=by rw[←ha];simp
 have h1:=aw (k:=1) h rfl;have h2:=aw (k:=2) h rfl;have h3:=aw (k:=3) h rfl;have h4:=aw (k:=4) h rfl;have e0:=(ak h (k:=1) (by decide)).trans (fO h1);have e1:=(ak h2 (k:=0) (by decide)).trans (ct (w:=[104]) (r:=[32]) (by simp) h2 rfl rfl rfl rfl (by decide));have ee:=(ak h3 (k:=1) (by decide)).trans (at_end (by simpa using h4));have key:=bI (p:=4) (part:=[aq 2 (a+1) (a+2),aZ (a+2) [104]]) (Q:=[aq 7 (a+4) (a+5),aZ (a+6) [105],aq 3 (a+7) (a+8)]) hl ha.symm rfl (by decide) (Goes.cons e0 rfl rfl (Goes.cons e1 rfl rfl Goes.nil)) ee (Or.inl rfl) (by simp) (by simp);rw[key];simp[b9,aq,ha]
theorem RA (aA:List Nat)(hl:aA.length+1≤20):bJ (ai aA++[32,40,104,32,46]) 5=some ([],(ai aA).length + 5,4):=by
 generalize ha:(ai aA).length=a;have h:(ai aA++[32,40,104,32,46]).drop a=[32,40,104,32,46]:=by rw[←ha];simp
 have h1:=aw (k:=1) h rfl;have h2:=aw (k:=2) h rfl;have h3:=aw (k:=3) h rfl;have h4:=aw (k:=4) h rfl;have h5:=aw (k:=5) h rfl;have e0:=(ak h (k:=1) (by decide)).trans (fO h1);have e1:=(ak h2 (k:=0) (by decide)).trans (ct (w:=[104]) (r:=[32,46]) (by simp) h2 rfl rfl rfl rfl (by decide));have e2:=(ak h3 (k:=1) (by decide)).trans (xG h4 (by decide));have ee:=(ak h5 (k:=0) (by decide)).trans (at_end (by simpa using h5));have key:=bI (p:=4) (part:=[aq 2 (a+1) (a+2),aZ (a+2) [104],aq 7 (a+4) (a+5)]) (Q:=[aZ (a+6) [105],aq 3 (a+7) (a+8)]) hl ha.symm rfl (by decide) (Goes.cons e0 rfl rfl (Goes.cons e1 rfl rfl (Goes.cons e2 rfl rfl Goes.nil))) ee (Or.inl rfl) (by simp) (by simp);rw[key];simp[b9,aq,ha]
theorem RB (aA:List Nat)(hl:aA.length+1≤20):bJ (ai aA++[32,40,104,32,46,32]) 5=some ([],(ai aA).length + 6,4):=by
 generalize ha:(ai aA).length=a;have h:(ai aA++[32,40,104,32,46,32]).drop a=[32,40,104,32,46,32]:=by rw[←ha];simp
 have h1:=aw (k:=1) h rfl;have h2:=aw (k:=2) h rfl;have h3:=aw (k:=3) h rfl;have h4:=aw (k:=4) h rfl;have h5:=aw (k:=5) h rfl;have h6:=aw (k:=6) h rfl;have e0:=(ak h (k:=1) (by decide)).trans (fO h1);have e1:=(ak h2 (k:=0) (by decide)).trans (ct (w:=[104]) (r:=[32,46,32]) (by simp) h2 rfl rfl rfl rfl (by decide));have e2:=(ak h3 (k:=1) (by decide)).trans (xG h4 (by decide));have ee:=(ak h5 (k:=1) (by decide)).trans (at_end (by simpa using h6));have key:=bI (p:=4) (part:=[aq 2 (a+1) (a+2),aZ (a+2) [104],aq 7 (a+4) (a+5)]) (Q:=[aZ (a+6) [105],aq 3 (a+7) (a+8)]) hl ha.symm rfl (by decide) (Goes.cons e0 rfl rfl (Goes.cons e1 rfl rfl (Goes.cons e2 rfl rfl Goes.nil))) ee (Or.inl rfl) (by simp) (by simp);rw[key];simp[b9,aq,ha]
theorem RD (aA:List Nat)(hl:aA.length+1≤20):bJ (ai aA++[32,40,104,32,46,32,105]) 5=some ([],(ai aA).length + 7,4):=by
 generalize ha:(ai aA).length=a;have h:(ai aA++[32,40,104,32,46,32,105]).drop a=[32,40,104,32,46,32,105]:=by rw[←ha];simp
 have h1:=aw (k:=1) h rfl;have h2:=aw (k:=2) h rfl;have h3:=aw (k:=3) h rfl;have h4:=aw (k:=4) h rfl;have h5:=aw (k:=5) h rfl;have h6:=aw (k:=6) h rfl;have h7:=aw (k:=7) h rfl;have e0:=(ak h (k:=1) (by decide)).trans (fO h1);have e1:=(ak h2 (k:=0) (by decide)).trans (ct (w:=[104]) (r:=[32,46,32,105]) (by simp) h2 rfl rfl rfl rfl (by decide));have e2:=(ak h3 (k:=1) (by decide)).trans (xG h4 (by decide));have e3:=(ak h5 (k:=1) (by decide)).trans (ct (w:=[105]) (r:=[]) (by simp) h6 rfl rfl rfl rfl (by decide));have ee:=(ak h7 (k:=0) (by decide)).trans (at_end (by simpa using h7));have key:=bI (p:=4) (part:=[aq 2 (a+1) (a+2),aZ (a+2) [104],aq 7 (a+4) (a+5),aZ (a+6) [105]]) (Q:=[aq 3 (a+7) (a+8)]) hl ha.symm rfl (by decide) (Goes.cons e0 rfl rfl (Goes.cons e1 rfl rfl (Goes.cons e2 rfl rfl (Goes.cons e3 rfl rfl Goes.nil)))) ee (Or.inl rfl) (by simp) (by simp);rw[key];simp[b9,aq,ha]
theorem RF (aA:List Nat)(hl:aA.length+1≤20):bJ (ai aA++[32,40,104,32,46,32,105,41]) 5=some ([],(ai aA).length + 8,4):=by
 generalize ha:(ai aA).length=a;have h:(ai aA++[32,40,104,32,46,32,105,41]).drop a=[32,40,104,32,46,32,105,41]:=by rw[←ha];simp
 have h1:=aw (k:=1) h rfl;have h2:=aw (k:=2) h rfl;have h3:=aw (k:=3) h rfl;have h4:=aw (k:=4) h rfl;have h5:=aw (k:=5) h rfl;have h6:=aw (k:=6) h rfl;have h7:=aw (k:=7) h rfl;have h8:=aw (k:=8) h rfl;have e0:=(ak h (k:=1) (by decide)).trans (fO h1);have e1:=(ak h2 (k:=0) (by decide)).trans (ct (w:=[104]) (r:=[32,46,32,105,41]) (by simp) h2 rfl rfl rfl rfl (by decide));have e2:=(ak h3 (k:=1) (by decide)).trans (xG h4 (by decide));have e3:=(ak h5 (k:=1) (by decide)).trans (ct (w:=[105]) (r:=[41]) (by simp) h6 rfl rfl rfl rfl (by decide));have e4:=(ak h7 (k:=0) (by decide)).trans (jM h7);have ee:=(ak h8 (k:=0) (by decide)).trans (at_end (by simpa using h8));have key:=bI (p:=4) (part:=[aq 2 (a+1) (a+2),aZ (a+2) [104],aq 7 (a+4) (a+5),aZ (a+6) [105],aq 3 (a+7) (a+8)]) (Q:=[]) hl ha.symm rfl (by decide) (Goes.cons e0 rfl rfl (Goes.cons e1 rfl rfl (Goes.cons e2 rfl rfl (Goes.cons e3 rfl rfl (Goes.cons e4 rfl rfl Goes.nil))))) ee (Or.inl rfl) (by simp) (by simp);rw[key];simp[b9,aq,ha]
theorem RG (aA:List Nat)(hl:aA.length+1≤20):bJ (ai aA++[10]) 5=some ([],(ai aA).length + 1,4):=by
 generalize ha:(ai aA).length=a;have h:(ai aA++[10]).drop a=[10]:=by rw[←ha];simp
 have h1:=aw (k:=1) h rfl;have ee:=(ak h (k:=1) (by decide)).trans (at_end (by simpa using h1));have key:=bI (p:=5) (part:=[]) (Q:=[]) hl ha.symm rfl (by decide) Goes.nil ee (Or.inl rfl) (by simp) (by simp);rw[key];simp[b9,aq,ha]
theorem RH (aA:List Nat)(hl:aA.length+1≤20):bJ (ai aA++[10,59]) 5=some ([],(ai aA).length + 2,4):=by
 generalize ha:(ai aA).length=a;have h:(ai aA++[10,59]).drop a=[10,59]:=by rw[←ha];simp
 have h2:=aw (k:=2) h rfl;have ee:=(ak h (k:=2) (by decide)).trans (at_end (by simpa using h2));have key:=bI (p:=5) (part:=[]) (Q:=[]) hl ha.symm rfl (by decide) Goes.nil ee (Or.inl rfl) (by simp) (by simp);rw[key];simp[b9,aq,ha]
theorem RI (aA:List Nat)(hl:aA.length+1≤20):bJ (ai aA++[10,59,32]) 5=some ([],(ai aA).length + 3,4):=by
 generalize ha:(ai aA).length=a;have h:(ai aA++[10,59,32]).drop a=[10,59,32]:=by rw[←ha];simp
 have h3:=aw (k:=3) h rfl;have ee:=(ak h (k:=3) (by decide)).trans (at_end (by simpa using h3));have key:=bI (p:=5) (part:=[]) (Q:=[]) hl ha.symm rfl (by decide) Goes.nil ee (Or.inl rfl) (by simp) (by simp);rw[key];simp[b9,aq,ha]
theorem RJ (aA:List Nat)(hl:aA.length+1≤20):bJ (ai aA++[10,59,32,106]) 5=some ([],(ai aA).length + 4,4):=by
 generalize ha:(ai aA).length=a;have h:(ai aA++[10,59,32,106]).drop a=[10,59,32,106]:=by rw[←ha];simp
 have h4:=aw (k:=4) h rfl;have ee:=(ak h (k:=4) (by decide)).trans (at_end (by simpa using h4));have key:=bI (p:=5) (part:=[]) (Q:=[]) hl ha.symm rfl (by decide) Goes.nil ee (Or.inl rfl) (by simp) (by simp);rw[key];simp[b9,aq,ha]
theorem RL (aA:List Nat)(hl:aA.length+1≤20):bJ (ai aA++[10,59,32,106,10]) 5=some ([],(ai aA).length + 5,4):=by
 generalize ha:(ai aA).length=a;have h:(ai aA++[10,59,32,106,10]).drop a=[10,59,32,106,10]:=by rw[←ha];simp
 have h5:=aw (k:=5) h rfl;have ee:=(ak h (k:=5) (by decide)).trans (at_end (by simpa using h5));have key:=bI (p:=5) (part:=[]) (Q:=[]) hl ha.symm rfl (by decide) Goes.nil ee (Or.inl rfl) (by simp) (by simp);rw[key];simp[b9,aq,ha]
theorem RN (aA:List Nat)(hl:aA.length+1≤20):bJ (ai aA++[32,45]) 5=some ([],(ai aA).length + 2,4):=by
 generalize ha:(ai aA).length=a;have h:(ai aA++[32,45]).drop a=[32,45]:=by rw[←ha];simp
 have h1:=aw (k:=1) h rfl;have h2:=aw (k:=2) h rfl;have e0:=(ak h (k:=1) (by decide)).trans (ct (w:=[45]) (r:=[]) (by simp) h1 rfl rfl rfl rfl (by decide));have ee:=(ak h2 (k:=0) (by decide)).trans (at_end (by simpa using h2));have key:=bI (p:=6) (part:=[aZ (a+1) [45]]) (Q:=[]) hl ha.symm rfl (by decide) (Goes.cons e0 rfl rfl Goes.nil) ee (Or.inl rfl) (by simp) (by simp);rw[key];simp[b9,aq,ha]
theorem RO (ps:List Nat)(hl:ps.length≤20)(hp:∀p∈ps,p<7)(k:Nat)(h1:1≤k)(hk:k≤(ai ps).length):bJ ((ai ps).take k) 5=some ([],if(ai ps).getD (k-1) 0=35 then(k-1,3)else(k,4)):=by
 rcases zag 2 k with h2|h2
 ·obtain⟨aA,p,Tg,r,e,h3,h4,h5⟩:=DJ ps (k-2) (by omega) (by rw[jO]at hk;omega);have lN:aA.length+1≤20:=by rw[e]at hl;simp at hl;omega
  have hp7:p<7:=hp p (by rw[e];simp);have ht:(ai ps).take k=ai aA++(cX p).take r:=by
   have Sn:k=(ai aA).length + r:=by rw[jO];omega
   rw[Sn,e];simp only[ai,oH,dE,zaP];rw[show[40,97]++(bN aA++(cX p++bN Tg))=([40,97]++bN aA)++(cX p++bN Tg) by simp,List.take_length_add_append,List.take_append_of_le_length h4,zaP]
  have hb:(ai ps).getD (k-1) 0=(cX p).getD (r-1) 0:=by
   have Sn:k-1=(ai aA).length + (r-1):=by rw[jO];omega
   rw[Sn,e];simp only[ai,oH,dE];rw[show[40,97]++(bN aA++(cX p++bN Tg))=([40,97]++bN aA)++(cX p++bN Tg) by simp];simp only[zbG];rw[zaK (by omega),Nat.add_sub_cancel_left,zaF (by omega)]
  have gU:k=(ai aA).length + r:=by rw[jO];omega
  rw[ht,hb];subst gU;clear ht hb e h5 hk h1 h2
  match p,hp7 with
  |0,_=>
   have EJ:r≤3:=h4
   match r,h3,EJ with
   |1,_,_=>exact Ra aA lN
   |2,_,_=>exact Rb aA lN
   |3,_,_=>exact Re aA lN
  |1,_=>
   have EJ:r≤6:=h4
   match r,h3,EJ with
   |1,_,_=>exact Ra aA lN
   |2,_,_=>exact Rg aA lN
   |3,_,_=>exact Rh aA lN
   |4,_,_=>exact Ri aA lN
   |5,_,_=>exact Rj aA lN
   |6,_,_=>exact Rk aA lN
  |2,_=>
   have EJ:r≤5:=h4
   match r,h3,EJ with
   |1,_,_=>exact Ra aA lN
   |2,_,_=>exact Rm aA lN
   |3,_,_=>exact Ro aA lN
   |4,_,_=>exact Rp aA lN
   |5,_,_=>exact Rq aA lN
  |3,_=>
   have EJ:r≤3:=h4
   match r,h3,EJ with
   |1,_,_=>exact Ra aA lN
   |2,_,_=>exact Ru aA lN
   |3,_,_=>exact Rv aA lN
  |4,_=>
   have EJ:r≤8:=h4
   match r,h3,EJ with
   |1,_,_=>exact Ra aA lN
   |2,_,_=>exact Rg aA lN
   |3,_,_=>exact Ry aA lN
   |4,_,_=>exact Rz aA lN
   |5,_,_=>exact RA aA lN
   |6,_,_=>exact RB aA lN
   |7,_,_=>exact RD aA lN
   |8,_,_=>exact RF aA lN
  |5,_=>
   have EJ:r≤5:=h4
   match r,h3,EJ with
   |1,_,_=>exact RG aA lN
   |2,_,_=>exact RH aA lN
   |3,_,_=>exact RI aA lN
   |4,_,_=>exact RJ aA lN
   |5,_,_=>exact RL aA lN
  |6,_=>
   have EJ:r≤2:=h4
   match r,h3,EJ with
   |1,_,_=>exact Ra aA lN
   |2,_,_=>exact RN aA lN
 ·have hc:k=1∨k=2:=by omega
  have hs:ai ps=40::97::bN ps:=rfl;rcases hc with rfl|rfl
  ·rw[hs];show bJ [40] 5=_;rw[if_neg (by simp)];decide +kernel
  ·rw[hs];show bJ [40,97] 5=_;rw[if_neg (by simp)];decide +kernel
theorem J3 {t:List UInt8}(ht:t.length<400):bJ (41::t) 5=some ([],0,3):=by
 have h0:(41::t).drop 0=41::t:=rfl;have e0:ax (41::t) 0=aq 3 0 1:=(ak h0 (k:=0) (by simp[bB,bK,dX])).trans (jM h0);unfold bJ;rw[if_neg (by omega),if_neg (by simp;omega)];have hT:(aQ ((41::t).length + 1) (41::t) 0)[0]?=some (aq 3 0 1):=by
  rw[aQ,e0];rfl
 show(match aM (aQ ((41::t).length + 1) (41::t) 0) 5 2000 ⟨0,false,[]⟩ ⟨0,0,[]⟩with|.out=>none|.fail e a=>some ([],a,e)|.ok d s=>_)=_;have:aM (aQ ((41::t).length + 1) (41::t) 0) 5 2000 ⟨0,false,[]⟩ ⟨0,0,[]⟩=.fail 3 0:=by
  rw[show 2000=1999+1 from rfl,aM,show 1999=1998+1 from rfl,kt (s:=⟨0,0,[]⟩) hT (by decide) (by decide) (by decide)];simp only[RR.bind];rw[bG];simp[aq]
 rw[this]
theorem FZ (root:Dt)(f:Nat):∀d:Dt,iX d=true→cO root (f+1) d=d
 |.nil,_|.sym _,_|.num _ _,_|.eT _,_|.si _,_|.txt _ _,_|.pair _ _ _,_|.vec _ _,_|.fj,_|.ck _ _,_=>rfl
 |.put _ _,h=>by cases h
 |.ask _,h=>by cases h
theorem DK (root:Dt):∀n,(∀d g k g',iX d=true→bf false d=true→kZ root n d g=some (k,g')→g'.nodes.length≤g.nodes.length+jN d)∧∀l acc g ks g',iX l=true→bf true l=true→il root n l acc g=some (ks,g')→g'.nodes.length≤g.nodes.length+jN l
 |0=>⟨λd g k g' _ _ h=>by simp[kZ]at h,λl acc g ks g' _ _ h=>by simp[il]at h⟩
 |n+1=>by
  have ih:=DK root n;refine⟨λd g k g' hb hp h=>?_,λl acc g ks g' hb hp h=>?_⟩
  ·unfold kZ at h;rw[FZ root 199999 d hb]at h;cases d with
   |pair i a b=>
    dsimp only at h;split at h
    ·cases h;omega
    ·obtain⟨y,hy,e⟩:=zam.1 h;cases e;simp only[iX,zac]at hb;simp only[bf,zac]at hp;have:=ih.2 _ _ _ _ _ (by simp[iX,hb.1,hb.2]) (by simp[bf,hp.1,hp.2]) hy;simp[di,jN]at this ⊢;omega
   |vec i l=>
    dsimp only at h;split at h
    ·cases h;omega
    ·obtain⟨y,hy,e⟩:=zam.1 h;cases e;simp only[bf,zac]at hp;have:=ih.2 _ _ _ _ _ (by simpa[iX]using hb) hp.2 hy;simp[di,jN]at this ⊢;omega
   |txt i s=>
    dsimp only at h;split at h
    ·cases h;omega
    ·cases h;simp[jN]
   |put n d=>cases hb
   |ask n=>cases hb
   |ck a l=>cases hp
   |fj=>cases hp
   |_=>simp only at h;cases h;simp[mh.add,jN]
  ·unfold il at h;split at h
   ·cases h;omega
   ·simp only[iX,zac]at hb;simp only[bf,zac]at hp;obtain⟨x,hx,e⟩:=zay.1 h;have:=ih.1 _ _ _ _ hb.1 hp.1 hx;have:=ih.2 _ _ _ _ _ hb.2 hp.2 e;simp only[jN];omega
   ·cases h
def lu (l:List Dt):Nat:=(l.map λd=>jN d+1).sum
theorem xK:∀(l:List Dt) (i:Nat),jN (aW l .nil i).1=lu l+1
 |[],i=>rfl
 |d::l,i=>by
  have:=xK l i;simp only[lu]at this;simp only[aW,jN,this,lu,zao,List.sum_cons];omega
theorem xL:∀(l:List Dt) (i:Nat),(∀d∈l,iX d=true)→iX (aW l .nil i).1=true
 |[],i,_=>rfl
 |d::l,i,h=>by
  simp only[aW,iX,zac];exact⟨h d (by simp),xL l i λx hx=>h x (by simp[hx])⟩
theorem F0 (p i:Nat):lu (lM p i)≤6∧(∀d∈lM p i,iX d=true∧bf false d=true):=by
 match p with
 |0|1|2|3|4|5|6|7=>simp[lM,lu,jN,iX,bf,Dt.ql]
 |n+8=>simp[lM,lu]
theorem uj:∀(ps:List Nat) (i:Nat),lu (eY ps i)≤6*ps.length∧(∀d∈eY ps i,iX d=true∧bf false d=true)
 |[],i=>⟨zaa _,λd h=>by cases h⟩
 |p::ps,i=>by
  have h1:=F0 p i;have h2:=uj ps (i+oJ p);refine⟨?_,λd hd=>?_⟩
  ·have e:lu (eY (p::ps) i)=lu (lM p i)+lu (eY ps (i+oJ p)):=by simp[lu,eY]
   rw[e,zak];omega
  ·rcases zaO.1 hd with h|h
   ·exact h1.2 d h
   ·exact h2.2 d h
theorem Nt {t:List UInt8}{T:List Tok}{dp:Nat}{d:Dt}{s:eX}{k a:Nat}{g:mh}(yc:dp≤30)(ht:t.length≤400)(hT:aQ (t.length+1) t 0=T)(hr:aM T dp 2000 ⟨0,false,[]⟩ ⟨0,0,[]⟩=.ok d s)(hn:kZ d 100000 d ⟨[],[]⟩=some (k,g))(hl:g.nodes.length≤150)(ha:((T[s.k-1]?).map (·.dF)).getD 0=a):bJ t dp=some (g.nodes,a,0):=by
 unfold bJ;rw[if_neg (by omega),if_neg (by omega),zaB,hT,hr];show Option.map _ (kZ d 100000 d ⟨[],[]⟩)=_;rw[hn];show some (if 150<g.nodes.length then _ else _)=_;rw[if_neg (by omega),ha]
theorem J4 (ps:List Nat)(hl:ps.length≤20):∃nodes,bJ (ai ps++[41]) 5=some (nodes,(ai ps).length + 1,0):=by
 obtain⟨e,he,hg⟩:=xJ ps;have h0:=oK ps 2;have h8:=nj ps;have eG:=jO ps;have hct:(cK ps).length=2+(cY ps 2).length:=by simp[cK];omega
 have hlen:(ai ps++[41]).length=(ai ps).length + 1:=by simp
 have p5:=hg ((ai ps++[41]).length + 1) (by omega);clear hg;obtain⟨i,hr⟩:=r9 (T:=cK ps++[aq 3 (ai ps).length ((ai ps).length + 1),e]) ps (more:=[e]) (x:=(ai ps).length) (y:=(ai ps).length + 1) rfl hl;have hf:=uj ps 0;have hall:∀d∈(Dt.sym [97]::eY ps 0),iX d=true∧bf false d=true:=λd hd=>by
  rcases zas.1 hd with rfl|h
  ·exact⟨rfl,by decide⟩
  ·exact hf.2 d h
 have h1:=xL _ i λd hd=>(hall d hd).1;have h2:=mZ _ .nil i (λd hd=>(hall d hd).2) rfl;have h3:=xK (Dt.sym [97]::eY ps 0) i;have e2:lu (Dt.sym [97]::eY ps 0)=2+lu (eY ps 0):=by simp[lu,jN]
 generalize (aW (.sym [97]::eY ps 0) .nil i).1=d at hr h1 h2 h3;obtain⟨_,k,g,hn,_⟩:=r8 (s:=ai ps++[41]) (by omega) 5 d _ (by rw[p5];exact hr);have hs:=(DK d 100000).1 d ⟨[],[]⟩ k g h1 h2 hn;rw[zaS]at hs;refine⟨g.nodes,Nt (dp:=5) (by omega) (by omega) p5 hr hn (by omega) ?_⟩;show(((cK ps++[aq 3 (ai ps).length ((ai ps).length + 1),e])[(cK ps).length + 1-1]?).map (·.dF)).getD 0=_;rw[show(cK ps).length + 1-1=(cK ps).length by omega,zaK (zaa _)];simp[aq]
end Go.Loop
