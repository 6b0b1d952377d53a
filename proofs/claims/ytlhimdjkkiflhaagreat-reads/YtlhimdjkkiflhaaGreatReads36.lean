import Derived.Conc.FxGenDone
import Derived.Conc.FxGenWait
import Derived.Conc.FxGenLone
import Derived.Conc.BesideWords
import Derived.Test.YtlhimdjkkiflhaaGreatReads11
import Derived.Test.YtlhimdjkkiflhaaGreatReads14
set_option maxHeartbeats 8000000
set_option maxRecDepth 100000
open Go.Value renaming int→Γ
open Go.IntKind renaming i64→Δ
open Go.Instr renaming loadAt→Θ,sureAddr→Ω
open Go renaming Value→Λ,World→Ξ,FuncId→Φ,Frame→ζ,TypeId→η,execOp→θ,undef→ι,stepG→ξ,Calls→π
open Go.Act renaming eval→υ
namespace Go.Ren
open Go.Proofs.Tryz
open Go Go.Proofs Go.Conc.Lib
abbrev cv:WgLink:={ add:=23,done:=25,wait:=27,relMerge:=34,disable:=35,enable:=36,inBubble:=37,associate:=38,fatal:=39,uOr:=40,uAdd:=41,raceRead:=42,uLoad:=43,uStore:=44,disassociate:=45,semrelease:=46,acquire:=49,isAssociated:=50,uCas:=51,raceWrite:=52,semacquire:=53,orU64:=70,addU64:=71,loadU64:=72,storeU64:=73,casU64:=81,tWgP:=102,tUP:=104,tAssoc:=106,tWg:=87,tAU:=84,tU64:=82,tUint:=110,tU32:=85,tPU32:=111,tPAU:=146,tPU64:=148,tNoCopy:=79,tANoCopy:=80,tAlign64:=81 }
theorem LQ:prog.funcs[23]?=some (addFn cv):=by kernel_rfl
theorem G6:prog.funcs[25]?=some (doneFn cv):=by kernel_rfl
theorem G7:prog.funcs[27]?=some (waitFn cv):=by kernel_rfl
theorem wgz:WgLib prog cv:=by
 refine⟨LQ,G6,G7,?_,?_,?_,?_,?_,?_,?_,?_,?_,?_,?_,?_,?_,?_,?_,?_,?_,?_,?_,?_,?_,?_,?_,
  ?_,?_,?_,?_,?_,?_,?_,?_,?_,?_,?_,?_,?_,?_,?_,?_,?_,?_,?_,?_,?_,?_,?_,?_,?_,?_,?_,?_,?_,?_,?_,?_,?_,?_,?_,?_,?_,?_,?_,?_,?_,?_,?_,?_,?_,?_,?_,?_,?_,?_,?_,?_,?_,?_,?_,?_,?_,?_,?_,?_,?_,?_,?_,?_,?_,?_,?_,?_,?_,?_,?_,?_,?_,?_,?_,?_,?_,?_,?_,?_,?_,?_,?_,?_,?_,?_,?_⟩
 all_goals first
  |kernel_rfl
  |(intro w;kernel_rfl)
end Go.Ren
namespace Go.Ren
open Go.Proofs.Tryz
open Go Go.Proofs
theorem Oq:prog.globals.size=1:=by kernel_rfl
def Lc:List Nat:=[47,48,74,75,76,77,78,79,80,96,97,98,99,100,101,102,103,104,105,106,107,108,109,110,111,116,117,118,119,120,121,122,123,124,125,126,127,128,129,130,131,132,133,134,135,136]
def Fc:Φ→Bool:=λf=>Lc.any (·==f)
def Sc:Sd:=⟨λf=>f==78||f==106||f==107,1,1⟩
def Lz:List Nat:=[6,7,9,10,11,12,14,15,16,17,18,19,20,21,22,28,29,30,31,32,33,54,55,56,57,58,59,60,61,62,63,64,65,66,67,68,69,78,82,83,84,85,86,87,88,89,90,91,92,93,94,95,106,107,108,112,113,114,115,121,128]
def Fz:Φ→Bool:=λf=>Lz.any (·==f)
def Sz:Sd:=⟨λf=>f==78||f==106||f==107,1,1⟩
instance aea:Shut prog Sc:=⟨Oq.symm,by rw[Oq];exact zab _⟩
theorem Pz:Two prog Sz Sc:=⟨Oq.symm,by rw[Oq];decide,λ_ h=>h⟩
def Qz (F:Φ→Bool)(S:Sd)(f:Φ):Prop:=Gw prog S f∧∀fn c,prog.funcs[f]?=some fn→fn.body=some c→br prog F S c=true
theorem aC {F:Φ→Bool}{S:Sd}{f:Φ}{g:Func}(h:prog.funcs[f]?=some g)(hn:(g.name== "runtime.NumGoroutine")=false)(hb:g.body.isNone=false)(hc:(match g.body with|some c=>br prog F S c|none=>true)=true):Qz F S f:=by
 refine⟨⟨g,h,hn,.inl hb⟩,λfn c h1 h2=>?_⟩;rw[h]at h1;cases h1;rw[h2]at hc;exact hc
theorem A1 {F:Φ→Bool}{S:Sd}{f:Φ}{g:Func}{e:Array Λ→Sem Λ}(h:prog.funcs[f]?=some g)(hn:(g.name== "runtime.NumGoroutine")=false)(hb:g.body.isNone=true)(hx:Extern.findNext g=none)(hf:Extern.find g=some e)(he:∀(ρ:Rn) (args:Array Λ),qJ S ρ→aa prog ρ (VV ρ) (e args) (e (args.map (rv ρ)))):Qz F S f:=by
 refine⟨⟨g,h,hn,.inr ⟨hb,hx,e,hf,λρ args _ hfx=>he ρ args hfx⟩⟩,λfn c h1 h2=>?_⟩;rw[h]at h1;cases h1;rw[h2]at hb;cases hb
theorem abj:Qz Fc Sc 47:=aC (g:=f47) (by kernel_rfl) (by kernel_rfl) (by kernel_rfl) (by kernel_rfl)
theorem abk:Qz Fc Sc 48:=aC (g:=f48) (by kernel_rfl) (by kernel_rfl) (by kernel_rfl) (by kernel_rfl)
theorem abl:Qz Fc Sc 74:=aC (g:=f74) (by kernel_rfl) (by kernel_rfl) (by kernel_rfl) (by kernel_rfl)
theorem abm:Qz Fc Sc 75:=aC (g:=f75) (by kernel_rfl) (by kernel_rfl) (by kernel_rfl) (by kernel_rfl)
theorem abn:Qz Fc Sc 76:=aC (g:=f76) (by kernel_rfl) (by kernel_rfl) (by kernel_rfl) (by kernel_rfl)
theorem abo:Qz Fc Sc 77:=aC (g:=f77) (by kernel_rfl) (by kernel_rfl) (by kernel_rfl) (by kernel_rfl)
theorem abp:Qz Fc Sc 78:=aC (g:=f78) (by kernel_rfl) (by kernel_rfl) (by kernel_rfl) (by kernel_rfl)
theorem abq:Qz Fc Sc 79:=aC (g:=f79) (by kernel_rfl) (by kernel_rfl) (by kernel_rfl) (by kernel_rfl)
theorem abr:Qz Fc Sc 80:=aC (g:=f80) (by kernel_rfl) (by kernel_rfl) (by kernel_rfl) (by kernel_rfl)
theorem abt:Qz Fc Sc 96:=aC (g:=f96) (by kernel_rfl) (by kernel_rfl) (by kernel_rfl) (by kernel_rfl)
theorem abu:Qz Fc Sc 97:=aC (g:=f97) (by kernel_rfl) (by kernel_rfl) (by kernel_rfl) (by kernel_rfl)
theorem abv:Qz Fc Sc 98:=aC (g:=f98) (by kernel_rfl) (by kernel_rfl) (by kernel_rfl) (by kernel_rfl)
theorem abw:Qz Fc Sc 99:=aC (g:=Tryz.f99) (by kernel_rfl) (by kernel_rfl) (by kernel_rfl) (by kernel_rfl)
theorem Xc:Qz Fc Sc 100:=aC (g:=f100) (by kernel_rfl) (by kernel_rfl) (by kernel_rfl) (by kernel_rfl)
theorem Xd:Qz Fc Sc 101:=aC (g:=f101) (by kernel_rfl) (by kernel_rfl) (by kernel_rfl) (by kernel_rfl)
theorem Xe:Qz Fc Sc 102:=aC (g:=f102) (by kernel_rfl) (by kernel_rfl) (by kernel_rfl) (by kernel_rfl)
theorem Xf:Qz Fc Sc 103:=aC (g:=f103) (by kernel_rfl) (by kernel_rfl) (by kernel_rfl) (by kernel_rfl)
theorem Xg:Qz Fc Sc 104:=aC (g:=f104) (by kernel_rfl) (by kernel_rfl) (by kernel_rfl) (by kernel_rfl)
theorem Xh:Qz Fc Sc 105:=aC (g:=f105) (by kernel_rfl) (by kernel_rfl) (by kernel_rfl) (by kernel_rfl)
theorem Xi:Qz Fc Sc 106:=aC (g:=f106) (by kernel_rfl) (by kernel_rfl) (by kernel_rfl) (by kernel_rfl)
theorem Xj:Qz Fc Sc 107:=aC (g:=f107) (by kernel_rfl) (by kernel_rfl) (by kernel_rfl) (by kernel_rfl)
theorem Xk:Qz Fc Sc 108:=aC (g:=f108) (by kernel_rfl) (by kernel_rfl) (by kernel_rfl) (by kernel_rfl)
theorem Xl:Qz Fc Sc 109:=aC (g:=f109) (by kernel_rfl) (by kernel_rfl) (by kernel_rfl) (by kernel_rfl)
theorem Xm:Qz Fc Sc 110:=aC (g:=f110) (by kernel_rfl) (by kernel_rfl) (by kernel_rfl) (by kernel_rfl)
theorem Xn:Qz Fc Sc 111:=aC (g:=f111) (by kernel_rfl) (by kernel_rfl) (by kernel_rfl) (by kernel_rfl)
theorem Xo:Qz Fc Sc 116:=aC (g:=f116) (by kernel_rfl) (by kernel_rfl) (by kernel_rfl) (by kernel_rfl)
theorem Xp:Qz Fc Sc 117:=aC (g:=f117) (by kernel_rfl) (by kernel_rfl) (by kernel_rfl) (by kernel_rfl)
theorem Xq:Qz Fc Sc 118:=aC (g:=f118) (by kernel_rfl) (by kernel_rfl) (by kernel_rfl) (by kernel_rfl)
theorem Xr:Qz Fc Sc 119:=aC (g:=f119) (by kernel_rfl) (by kernel_rfl) (by kernel_rfl) (by kernel_rfl)
theorem Xs:Qz Fc Sc 120:=aC (g:=f120) (by kernel_rfl) (by kernel_rfl) (by kernel_rfl) (by kernel_rfl)
theorem Xt:Qz Fc Sc 121:=aC (g:=f121) (by kernel_rfl) (by kernel_rfl) (by kernel_rfl) (by kernel_rfl)
theorem Xu:Qz Fc Sc 122:=aC (g:=f122) (by kernel_rfl) (by kernel_rfl) (by kernel_rfl) (by kernel_rfl)
theorem Xv:Qz Fc Sc 123:=aC (g:=f123) (by kernel_rfl) (by kernel_rfl) (by kernel_rfl) (by kernel_rfl)
theorem Xw:Qz Fc Sc 124:=aC (g:=f124) (by kernel_rfl) (by kernel_rfl) (by kernel_rfl) (by kernel_rfl)
theorem Xx:Qz Fc Sc 125:=aC (g:=f125) (by kernel_rfl) (by kernel_rfl) (by kernel_rfl) (by kernel_rfl)
theorem Xy:Qz Fc Sc 126:=A1 (g:=f126) (e:=Extern.AbiNoEscape.same) (by kernel_rfl) (by kernel_rfl) (by kernel_rfl) (by kernel_rfl) (by kernel_rfl) λ_ args hx=>Ta args
theorem Xz:Qz Fc Sc 127:=aC (g:=f127) (by kernel_rfl) (by kernel_rfl) (by kernel_rfl) (by kernel_rfl)
theorem XA:Qz Fc Sc 128:=A1 (g:=f128) (e:=Extern.BytealgIndexByte.indexByte) (by kernel_rfl) (by kernel_rfl) (by kernel_rfl) (by kernel_rfl) (by kernel_rfl) λ_ args hx=>ui args
theorem XB:Qz Fc Sc 129:=aC (g:=f129) (by kernel_rfl) (by kernel_rfl) (by kernel_rfl) (by kernel_rfl)
theorem XC:Qz Fc Sc 130:=aC (g:=f130) (by kernel_rfl) (by kernel_rfl) (by kernel_rfl) (by kernel_rfl)
theorem XD:Qz Fc Sc 131:=aC (g:=f131) (by kernel_rfl) (by kernel_rfl) (by kernel_rfl) (by kernel_rfl)
theorem XE:Qz Fc Sc 132:=aC (g:=f132) (by kernel_rfl) (by kernel_rfl) (by kernel_rfl) (by kernel_rfl)
theorem XF:Qz Fc Sc 133:=A1 (g:=f133) (e:=Extern.BytealgIndex.index) (by kernel_rfl) (by kernel_rfl) (by kernel_rfl) (by kernel_rfl) (by kernel_rfl) λ_ args hx=>LV (λg hg=>hx.l g (by rw[Oq]at hg;exact hg)) args
theorem XG:Qz Fc Sc 134:=aC (g:=f134) (by kernel_rfl) (by kernel_rfl) (by kernel_rfl) (by kernel_rfl)
theorem XH:Qz Fc Sc 135:=aC (g:=f135) (by kernel_rfl) (by kernel_rfl) (by kernel_rfl) (by kernel_rfl)
theorem XI:Qz Fc Sc 136:=aC (g:=f136) (by kernel_rfl) (by kernel_rfl) (by kernel_rfl) (by kernel_rfl)
theorem qz6:Qz Fz Sz 6:=aC (g:=Tryz.f6) (by kernel_rfl) (by kernel_rfl) (by kernel_rfl) (by kernel_rfl)
theorem qz7:Qz Fz Sz 7:=aC (g:=Tryz.f7) (by kernel_rfl) (by kernel_rfl) (by kernel_rfl) (by kernel_rfl)
theorem qz9:Qz Fz Sz 9:=aC (g:=f9) (by kernel_rfl) (by kernel_rfl) (by kernel_rfl) (by kernel_rfl)
theorem abx:Qz Fz Sz 10:=aC (g:=f10) (by kernel_rfl) (by kernel_rfl) (by kernel_rfl) (by kernel_rfl)
theorem aby:Qz Fz Sz 11:=aC (g:=f11) (by kernel_rfl) (by kernel_rfl) (by kernel_rfl) (by kernel_rfl)
theorem abz:Qz Fz Sz 12:=aC (g:=f12) (by kernel_rfl) (by kernel_rfl) (by kernel_rfl) (by kernel_rfl)
theorem abA:Qz Fz Sz 14:=aC (g:=f14) (by kernel_rfl) (by kernel_rfl) (by kernel_rfl) (by kernel_rfl)
theorem abB:Qz Fz Sz 15:=aC (g:=f15) (by kernel_rfl) (by kernel_rfl) (by kernel_rfl) (by kernel_rfl)
theorem abC:Qz Fz Sz 16:=aC (g:=f16) (by kernel_rfl) (by kernel_rfl) (by kernel_rfl) (by kernel_rfl)
theorem abD:Qz Fz Sz 17:=aC (g:=f17) (by kernel_rfl) (by kernel_rfl) (by kernel_rfl) (by kernel_rfl)
theorem abE:Qz Fz Sz 18:=aC (g:=f18) (by kernel_rfl) (by kernel_rfl) (by kernel_rfl) (by kernel_rfl)
theorem abF:Qz Fz Sz 19:=aC (g:=f19) (by kernel_rfl) (by kernel_rfl) (by kernel_rfl) (by kernel_rfl)
theorem abG:Qz Fz Sz 20:=aC (g:=f20) (by kernel_rfl) (by kernel_rfl) (by kernel_rfl) (by kernel_rfl)
theorem abH:Qz Fz Sz 21:=aC (g:=f21) (by kernel_rfl) (by kernel_rfl) (by kernel_rfl) (by kernel_rfl)
theorem abI:Qz Fz Sz 22:=aC (g:=f22) (by kernel_rfl) (by kernel_rfl) (by kernel_rfl) (by kernel_rfl)
theorem abJ:Qz Fz Sz 28:=aC (g:=f28) (by kernel_rfl) (by kernel_rfl) (by kernel_rfl) (by kernel_rfl)
theorem abK:Qz Fz Sz 29:=aC (g:=f29) (by kernel_rfl) (by kernel_rfl) (by kernel_rfl) (by kernel_rfl)
theorem abL:Qz Fz Sz 30:=aC (g:=f30) (by kernel_rfl) (by kernel_rfl) (by kernel_rfl) (by kernel_rfl)
theorem abM:Qz Fz Sz 31:=aC (g:=f31) (by kernel_rfl) (by kernel_rfl) (by kernel_rfl) (by kernel_rfl)
theorem abN:Qz Fz Sz 32:=aC (g:=f32) (by kernel_rfl) (by kernel_rfl) (by kernel_rfl) (by kernel_rfl)
theorem abO:Qz Fz Sz 33:=aC (g:=f33) (by kernel_rfl) (by kernel_rfl) (by kernel_rfl) (by kernel_rfl)
theorem abP:Qz Fz Sz 54:=aC (g:=f54) (by kernel_rfl) (by kernel_rfl) (by kernel_rfl) (by kernel_rfl)
theorem abQ:Qz Fz Sz 55:=aC (g:=f55) (by kernel_rfl) (by kernel_rfl) (by kernel_rfl) (by kernel_rfl)
theorem abR:Qz Fz Sz 56:=aC (g:=f56) (by kernel_rfl) (by kernel_rfl) (by kernel_rfl) (by kernel_rfl)
theorem abS:Qz Fz Sz 57:=aC (g:=f57) (by kernel_rfl) (by kernel_rfl) (by kernel_rfl) (by kernel_rfl)
theorem abT:Qz Fz Sz 58:=aC (g:=f58) (by kernel_rfl) (by kernel_rfl) (by kernel_rfl) (by kernel_rfl)
theorem abU:Qz Fz Sz 59:=aC (g:=f59) (by kernel_rfl) (by kernel_rfl) (by kernel_rfl) (by kernel_rfl)
theorem abV:Qz Fz Sz 60:=aC (g:=f60) (by kernel_rfl) (by kernel_rfl) (by kernel_rfl) (by kernel_rfl)
theorem abW:Qz Fz Sz 61:=aC (g:=f61) (by kernel_rfl) (by kernel_rfl) (by kernel_rfl) (by kernel_rfl)
theorem abX:Qz Fz Sz 62:=aC (g:=f62) (by kernel_rfl) (by kernel_rfl) (by kernel_rfl) (by kernel_rfl)
theorem abY:Qz Fz Sz 63:=aC (g:=f63) (by kernel_rfl) (by kernel_rfl) (by kernel_rfl) (by kernel_rfl)
theorem abZ:Qz Fz Sz 64:=aC (g:=f64) (by kernel_rfl) (by kernel_rfl) (by kernel_rfl) (by kernel_rfl)
theorem ab0:Qz Fz Sz 65:=aC (g:=f65) (by kernel_rfl) (by kernel_rfl) (by kernel_rfl) (by kernel_rfl)
theorem ab1:Qz Fz Sz 66:=aC (g:=f66) (by kernel_rfl) (by kernel_rfl) (by kernel_rfl) (by kernel_rfl)
theorem ab2:Qz Fz Sz 67:=aC (g:=f67) (by kernel_rfl) (by kernel_rfl) (by kernel_rfl) (by kernel_rfl)
theorem ab3:Qz Fz Sz 68:=aC (g:=f68) (by kernel_rfl) (by kernel_rfl) (by kernel_rfl) (by kernel_rfl)
theorem ab4:Qz Fz Sz 69:=aC (g:=f69) (by kernel_rfl) (by kernel_rfl) (by kernel_rfl) (by kernel_rfl)
theorem ab5:Qz Fz Sz 78:=aC (g:=f78) (by kernel_rfl) (by kernel_rfl) (by kernel_rfl) (by kernel_rfl)
theorem ab6:Qz Fz Sz 82:=aC (g:=f82) (by kernel_rfl) (by kernel_rfl) (by kernel_rfl) (by kernel_rfl)
theorem ab7:Qz Fz Sz 83:=aC (g:=f83) (by kernel_rfl) (by kernel_rfl) (by kernel_rfl) (by kernel_rfl)
theorem ab8:Qz Fz Sz 84:=aC (g:=f84) (by kernel_rfl) (by kernel_rfl) (by kernel_rfl) (by kernel_rfl)
theorem ab9:Qz Fz Sz 85:=aC (g:=f85) (by kernel_rfl) (by kernel_rfl) (by kernel_rfl) (by kernel_rfl)
theorem aca:Qz Fz Sz 86:=aC (g:=f86) (by kernel_rfl) (by kernel_rfl) (by kernel_rfl) (by kernel_rfl)
theorem acb:Qz Fz Sz 87:=aC (g:=f87) (by kernel_rfl) (by kernel_rfl) (by kernel_rfl) (by kernel_rfl)
theorem acd:Qz Fz Sz 88:=aC (g:=f88) (by kernel_rfl) (by kernel_rfl) (by kernel_rfl) (by kernel_rfl)
theorem ace:Qz Fz Sz 89:=aC (g:=f89) (by kernel_rfl) (by kernel_rfl) (by kernel_rfl) (by kernel_rfl)
theorem acf:Qz Fz Sz 90:=aC (g:=f90) (by kernel_rfl) (by kernel_rfl) (by kernel_rfl) (by kernel_rfl)
theorem acg:Qz Fz Sz 91:=aC (g:=f91) (by kernel_rfl) (by kernel_rfl) (by kernel_rfl) (by kernel_rfl)
theorem ach:Qz Fz Sz 92:=aC (g:=f92) (by kernel_rfl) (by kernel_rfl) (by kernel_rfl) (by kernel_rfl)
theorem aci:Qz Fz Sz 93:=aC (g:=f93) (by kernel_rfl) (by kernel_rfl) (by kernel_rfl) (by kernel_rfl)
theorem acj:Qz Fz Sz 94:=aC (g:=f94) (by kernel_rfl) (by kernel_rfl) (by kernel_rfl) (by kernel_rfl)
theorem ack:Qz Fz Sz 95:=aC (g:=f95) (by kernel_rfl) (by kernel_rfl) (by kernel_rfl) (by kernel_rfl)
theorem XJ:Qz Fz Sz 106:=aC (g:=f106) (by kernel_rfl) (by kernel_rfl) (by kernel_rfl) (by kernel_rfl)
theorem XK:Qz Fz Sz 107:=aC (g:=f107) (by kernel_rfl) (by kernel_rfl) (by kernel_rfl) (by kernel_rfl)
theorem XL:Qz Fz Sz 108:=aC (g:=f108) (by kernel_rfl) (by kernel_rfl) (by kernel_rfl) (by kernel_rfl)
theorem XM:Qz Fz Sz 112:=aC (g:=f112) (by kernel_rfl) (by kernel_rfl) (by kernel_rfl) (by kernel_rfl)
theorem XN:Qz Fz Sz 113:=aC (g:=f113) (by kernel_rfl) (by kernel_rfl) (by kernel_rfl) (by kernel_rfl)
theorem XO:Qz Fz Sz 114:=aC (g:=f114) (by kernel_rfl) (by kernel_rfl) (by kernel_rfl) (by kernel_rfl)
theorem XP:Qz Fz Sz 115:=aC (g:=f115) (by kernel_rfl) (by kernel_rfl) (by kernel_rfl) (by kernel_rfl)
theorem XQ:Qz Fz Sz 121:=aC (g:=f121) (by kernel_rfl) (by kernel_rfl) (by kernel_rfl) (by kernel_rfl)
theorem XR:Qz Fz Sz 128:=A1 (g:=f128) (e:=Extern.BytealgIndexByte.indexByte) (by kernel_rfl) (by kernel_rfl) (by kernel_rfl) (by kernel_rfl) (by kernel_rfl) λ_ args hx=>ui args
theorem RQ:prog.types.toList.all tyB=true:=by kernel_rfl
theorem RS:∀f∈Lc,Qz Fc Sc f:=zaf.2 ⟨abj,zaf.2 ⟨abk,zaf.2 ⟨abl,zaf.2 ⟨abm,zaf.2 ⟨abn,zaf.2 ⟨abo,zaf.2 ⟨abp,zaf.2 ⟨abq,zaf.2 ⟨abr,zaf.2 ⟨abt,zaf.2 ⟨abu,zaf.2 ⟨abv,zaf.2 ⟨abw,zaf.2 ⟨Xc,zaf.2 ⟨Xd,zaf.2 ⟨Xe,zaf.2 ⟨Xf,zaf.2 ⟨Xg,zaf.2 ⟨Xh,zaf.2 ⟨Xi,zaf.2 ⟨Xj,zaf.2 ⟨Xk,zaf.2 ⟨Xl,zaf.2 ⟨Xm,zaf.2 ⟨Xn,zaf.2 ⟨Xo,zaf.2 ⟨Xp,zaf.2 ⟨Xq,zaf.2 ⟨Xr,zaf.2 ⟨Xs,zaf.2 ⟨Xt,zaf.2 ⟨Xu,zaf.2 ⟨Xv,zaf.2 ⟨Xw,zaf.2 ⟨Xx,zaf.2 ⟨Xy,zaf.2 ⟨Xz,zaf.2 ⟨XA,zaf.2 ⟨XB,zaf.2 ⟨XC,zaf.2 ⟨XD,zaf.2 ⟨XE,zaf.2 ⟨XF,zaf.2 ⟨XG,zaf.2 ⟨XH,zaf.2 ⟨XI,(λ_ h=>by cases h)⟩⟩⟩⟩⟩⟩⟩⟩⟩⟩⟩⟩⟩⟩⟩⟩⟩⟩⟩⟩⟩⟩⟩⟩⟩⟩⟩⟩⟩⟩⟩⟩⟩⟩⟩⟩⟩⟩⟩⟩⟩⟩⟩⟩⟩⟩
theorem RU {f:Φ}(h:Fc f=true):f∈Lc:=by
 unfold Fc at h;rw[List.any_eq_true]at h;obtain⟨x,hx,e⟩:=h;rw[←(beq_iff_eq.1 e)];exact hx
theorem l4:kZ prog Fc Sc:=by
 refine⟨λg hg=>?_,λf hf=>(RS f (RU hf)).1,λf fn c hf h1 h2=>(RS f (RU hf)).2 fn c h1 h2,G9 RQ⟩;have vn:(g==78||g==106||g==107)=true:=hg;simp only[Bool.or_eq_true,zbs]at vn;rcases vn with(rfl|rfl)|rfl<;>rfl
theorem RV:∀f∈Lz,Qz Fz Sz f:=zaf.2 ⟨qz6,zaf.2 ⟨qz7,zaf.2 ⟨qz9,zaf.2 ⟨abx,zaf.2 ⟨aby,zaf.2 ⟨abz,zaf.2 ⟨abA,zaf.2 ⟨abB,zaf.2 ⟨abC,zaf.2 ⟨abD,zaf.2 ⟨abE,zaf.2 ⟨abF,zaf.2 ⟨abG,zaf.2 ⟨abH,zaf.2 ⟨abI,zaf.2 ⟨abJ,zaf.2 ⟨abK,zaf.2 ⟨abL,zaf.2 ⟨abM,zaf.2 ⟨abN,zaf.2 ⟨abO,zaf.2 ⟨abP,zaf.2 ⟨abQ,zaf.2 ⟨abR,zaf.2 ⟨abS,zaf.2 ⟨abT,zaf.2 ⟨abU,zaf.2 ⟨abV,zaf.2 ⟨abW,zaf.2 ⟨abX,zaf.2 ⟨abY,zaf.2 ⟨abZ,zaf.2 ⟨ab0,zaf.2 ⟨ab1,zaf.2 ⟨ab2,zaf.2 ⟨ab3,zaf.2 ⟨ab4,zaf.2 ⟨ab5,zaf.2 ⟨ab6,zaf.2 ⟨ab7,zaf.2 ⟨ab8,zaf.2 ⟨ab9,zaf.2 ⟨aca,zaf.2 ⟨acb,zaf.2 ⟨acd,zaf.2 ⟨ace,zaf.2 ⟨acf,zaf.2 ⟨acg,zaf.2 ⟨ach,zaf.2 ⟨aci,zaf.2 ⟨acj,zaf.2 ⟨ack,zaf.2 ⟨XJ,zaf.2 ⟨XK,zaf.2 ⟨XL,zaf.2 ⟨XM,zaf.2 ⟨XN,zaf.2 ⟨XO,zaf.2 ⟨XP,zaf.2 ⟨XQ,zaf.2 ⟨XR,(λ_ h=>by cases h)⟩⟩⟩⟩⟩⟩⟩⟩⟩⟩⟩⟩⟩⟩⟩⟩⟩⟩⟩⟩⟩⟩⟩⟩⟩⟩⟩⟩⟩⟩⟩⟩⟩⟩⟩⟩⟩⟩⟩⟩⟩⟩⟩⟩⟩⟩⟩⟩⟩⟩⟩⟩⟩⟩⟩⟩⟩⟩⟩⟩⟩
theorem RX {f:Φ}(h:Fz f=true):f∈Lz:=by
 unfold Fz at h;rw[List.any_eq_true]at h;obtain⟨x,hx,e⟩:=h;rw[←(beq_iff_eq.1 e)];exact hx
theorem fX:kZ prog Fz Sz:=by
 refine⟨λg hg=>?_,λf hf=>(RV f (RX hf)).1,λf fn c hf h1 h2=>(RV f (RX hf)).2 fn c h1 h2,G9 RQ⟩;have vn:(g==78||g==106||g==107)=true:=hg;simp only[Bool.or_eq_true,zbs]at vn;rcases vn with(rfl|rfl)|rfl<;>rfl
end Go.Ren
set_option linter.unusedSectionVars false
namespace Go.Ren
open Go.Proofs.Tryz
open Go Go.Conc Go.ConcX Go.RowKit Go.Conc.Lib Go.ConcX.Gen Go.Proofs
theorem XS:prog.funcs[26]?=some f26:=by kernel_rfl
def LX:ζ:=baseD 24
def rj (n:Nat):ζ:={ (default:ζ)with fn:=n,defers:=[],mode:= .panicking [goexitEntry] }
theorem Fo (T:Array Λ):QuitsD prog 2 0 (G { LX.at ⟨T,[]⟩ []with mode:= .returning } [(rj prog.funcs.size)]):=by
 refine QuitsD.ctl (g':=G (rj prog.funcs.size) []) rfl (λw=>?_) ?_
 ·simp[G,ξ,unwind,doReturn,results,ζ.at,LX,baseD,rj,f24,seen,GStep.after,goexitEntry]
 refine QuitsD.ctl (g':={ G (rj prog.funcs.size) []with status:= .finished }) rfl (λw=>?_) ⟨rfl,rfl⟩;simp[G,ξ,unwind,rj,goexitEntry,ζ.catches];rfl
def wU (f:Func):Array Oper:=match f.body with|some (.seq _ (.region _ ops _))=>ops|_=>#[]
theorem CR [Payload] {Wg C Low:Nat} [Shy Wg C] {vals:List Λ}(hW:Wg<Low)(hC:C<Low)(hCW:C≠Wg)(T T':Array Λ)(todo:List Item)(w:Ξ)(hF:KCa cv.tWg Wg w∧Full C vals w):Goes prog false (RCa cv.tWg Wg Low) (DCs kL Wg C) (AtR0 prog cv.tWg Wg C Low vals) (4+23)
  (G { (base 26).at ⟨T',[]⟩ todo with mode:= .returning } [LX.at ⟨T,[dcall 25 #[.pointer (some ⟨Wg,0,none⟩)]]⟩ [.inRegion (wU f24) [2]],(rj prog.funcs.size)]) w:=by
 u_leave0 XS (ka_rely hC hCW) hF
 u_c zaX (ka_rely hC hCW) hF
 u_c stepG_end (ka_rely hC hCW) hF
 u_in (ka_rely hC hCW) hF
 rw[stepG_unwind_enter rfl G6 (nm_done cv) rfl];simp only[goes_go];refine⟨by u_nil,?_⟩;have hA:=@doneD _ cv prog wgz kL Wg C Low _ vals hW hC hCW;exact hA rfl (Fo _) _ hF
theorem LY:(prog.funcs[26]?).any (·.norace)=false:=by kernel_rfl
theorem yq {Wg Low ch:Nat}{x y:tu Wg Low}{own:Nat→Prop}(PC:x.C≠ch)(PD:y.C≠ch)(T T':Array Λ)(todo:List Item)(ty rt:η)(bs:Array Bool)(w:Ξ)
 (hx:w.heap[x.C]?=some (.cells x.vals.toArray x.pl.ety))(hy:w.heap[y.C]?=some (.cells y.vals.toArray y.pl.ety)):
 wF prog ch (Jd prog cv.tWg x y) own (G { (base 26).at ⟨T',[fy (.chan (some ch)) ty rt bs]⟩ todo with mode:= .returning } [LX.at ⟨T,[dcall 25 #[.pointer (some ⟨Wg,0,none⟩)]]⟩ [.inRegion (wU f24) [2]],(rj prog.funcs.size)]) w:=by
 refine⟨rfl,rfl,G { (base 26).at ⟨T',[]⟩ todo with mode:= .returning } [LX.at ⟨T,[dcall 25 #[.pointer (some ⟨Wg,0,none⟩)]]⟩ [.inRegion (wU f24) [2]],(rj prog.funcs.size)],rfl,λs r tm hc=>⟨qg rfl hc LY,λEW=>⟨?_,?_⟩⟩⟩
 ·exact⟨_,@CR x.pl Wg x.C Low (lZ Wg x.C Low ni x.hW x.hC) x.vals x.hW x.hC x.hCW T T' todo _ ⟨.inl EW,λ_=>(kK PC).trans hx⟩⟩
 ·exact⟨_,@CR y.pl Wg y.C Low (lZ Wg y.C Low ni y.hW y.hC) y.vals y.hW y.hC y.hCW T T' todo _ ⟨.inl EW,λ_=>(kK PD).trans hy⟩⟩
theorem LZ {Wg Low ch:Nat}{x y:tu Wg Low}{ro own:Nat→Prop}(PC:x.C≠ch)(PD:y.C≠ch)(yt:ro x.C)(CS:ro y.C)(T T':Array Λ)(k:List Item)(ty rt:η)(bs:Array Bool)(w:Ξ)
 (hx:w.heap[x.C]?=some (.cells x.vals.toArray x.pl.ety))(hy:w.heap[y.C]?=some (.cells y.vals.toArray y.pl.ety)):
 jU prog ro ch (Jd prog cv.tWg x y) [] own (G ((base 26).at ⟨T',[fy (.chan (some ch)) ty rt bs]⟩ (.code .ret::k)) [LX.at ⟨T,[dcall 25 #[.pointer (some ⟨Wg,0,none⟩)]]⟩ [.inRegion (wU f24) [2]],(rj prog.funcs.size)]) w:=
 af.silent rfl (λ_=>stepG_ret') (.stop λw₁ hr=>yq PC PD T T' _ ty rt bs w₁ ((hr.block _ (.inr yt)).trans hx) ((hr.block _ (.inr CS)).trans hy))
end Go.Ren
set_option linter.unusedSectionVars false
namespace Go.Ren
open Go.Proofs.Tryz
open Go Go.Conc Go.ConcX Go.RowKit Go.Conc.Lib Go.ConcX.Gen Go.Proofs Go.Loop
def ek (t:Tok):Array Λ:=#[Γ Δ t.kind,Γ Δ t.from_,Γ Δ t.jZ,.string ⟨⟨t.text⟩⟩,Γ Δ t.n,Γ Δ t.d,Γ Δ t.fault]
def aK (t:Tok):Λ:= .agg (ek t)
theorem eM (t:Tok):fR (aK t):=nP λx hx=>by
 simp only[ek,zbX,zaI,zbY,or_false]at hx;rcases hx with rfl|rfl|rfl|rfl|rfl|rfl|rfl<;>intro ρ<;>simp[rv]
theorem L3 (s:ByteArray):fR (.string s):=λρ=>by simp[rv]
theorem CX (k:IntKind)(n:Int):fR (.int k n):=λρ=>by simp[rv]
theorem Jl (t:Bool):fR (.bool t):=λρ=>by simp[rv]
theorem qh:(prog.info? 76).map (λi=>(i.size,i.zero))=some (7,some (aK ⟨0,0,0,[],0,0,0⟩)):=by kernel_rfl
theorem xa (t:Tok):(prog.info? 76).map (·.size)=some (ek t).size:=by
 obtain⟨i,hi,he⟩:=zav.1 qh;simp only[zah]at he;rw[hi];simp[he.1,ek]
theorem L4 (t:Tok):(ek t).all (·.oneCell')=true:=by simp[ek,Λ.oneCell']
theorem PF (w:Ξ)(r:Nat):(Instr.fieldAt 76 (.pointer (some ⟨r,0,none⟩)) 2).run prog w=.ok (.pointer (some ⟨r,2,none⟩)) w:=by
 simp[go_sem,Instr.fieldAt,Ω,fieldPlace,Addr.add]
theorem XT (w:Ξ)(a:Addr){v:Λ}(h:w.cell? a=some v):(Θ 3 (.pointer (some a))).run prog w=.ok v w:=by
 simp[go_sem,Θ,Ω,loadVar,isAgg,h]
theorem acm:Fc 47=true:=by kernel_rfl
theorem acn:Fc 48=true:=by kernel_rfl
def bS:Code→Code|.seq _ c=>c|_=> .skip
def cY:Code→Code|.seq c _=>c|_=> .skip
def PG:Code→Code|.block _ c=>c|_=> .skip
def XU:Code→Code|.loop c=>c|_=> .skip
def ib:Code→Array Oper|.region _ o _=>o|_=>#[]
def CY (f:Func):Code:=XU (PG (bS (bS (f.body.getD .skip))))
def inS (f:Func):Code:=PG (CY f)
def r2 (f:Func):Array Oper:=ib (cY (inS f))
def in3 (f:Func):Code:=bS (inS f)
def r3 (f:Func):Array Oper:=ib (cY (in3 f))
def Tb (f:Func):Code:=bS (in3 f)
def r4 (f:Func):Array Oper:=ib (cY (cY (Tb f)))
def c4 (f:Func):Code:=bS (cY (Tb f))
def r5 (f:Func):Array Oper:=ib (bS (Tb f))
def kS (f:Func):List Item:=[.inBlock 1,.inLoop (CY f),.inBlock 0]
variable {Wg Low ch:Nat}{x y:tu Wg Low}{ro own:Nat→Prop}
def Vo (n:Nat)(f:Func)(Wg:Nat)(T:Array Λ):List ζ:=[LX.at ⟨T,[dcall 25 #[.pointer (some ⟨Wg,0,none⟩)]]⟩ [.inRegion (wU f) [2]],rj n]
structure SA (a:Act) (ch:Nat) (s:List UInt8) (n:Nat) (ty rt:η) (bs:Array Bool):Prop where
 size:a.tmps.size=16
 txt:a.eval (.tmp 0)=.string ⟨⟨s⟩⟩
 chan:a.eval (.tmp 1)=.chan (some ch)
 here:a.eval (.tmp 4)=Γ Δ n
 defers:a.defers=[fy (.chan (some ch)) ty rt bs]
theorem SA.put {a:Act}{s:List UInt8}{n:Nat}{ty rt:η}{bs:Array Bool}(h:SA a ch s n ty rt bs){t:Tmp}{v:Λ}(h0:t≠0)(h1:t≠1)(h4:t≠4):SA (a.put (some t) v) ch s n ty rt bs:=
 ⟨by rw[size_put];exact h.size,by rw[aB h0];exact h.txt,by rw[aB h1];exact h.chan,by rw[aB h4];exact h.here,by rw[cD];exact h.defers⟩
def Hx (x y:tu Wg Low)(W:Ξ):Prop:=W.heap[x.C]?=some (.cells x.vals.toArray x.pl.ety)∧W.heap[y.C]?=some (.cells y.vals.toArray y.pl.ety)
theorem Hx.on {W W':Ξ}(h:Hx x y W)(hx:ro x.C)(hy:ro y.C)(h':∀b,ro b→W'.heap[b]?=W.heap[b]?):Hx x y W':=⟨(h' _ hx).trans h.1,(h' _ hy).trans h.2⟩
section
variable (PC:x.C≠ch)(PD:y.C≠ch)(yt:ro x.C)(CS:ro y.C){s:List UInt8}{T:Array Λ}{ty rt:η}{bs:Array Bool}
 (hN:∀(n:Nat) (w:Ξ),n≤s.length→π prog 47 #[.string ⟨⟨s⟩⟩,Γ Δ n] w λe _=>∃v,e=.returned v∧v=aK (aO s n))
 (hL:∀(t:Tok) (w:Ξ),π prog 48 #[aK t] w λe _=>∃v,e=.returned v∧v=.bool t.lastB)
theorem jB {main:Bool}{b:ζ}{a:Act}{ops:Array Oper}{i:Nat}{rest:List Nat}{o:Oper}{kk:List Item}{cs:List ζ}{w:Ξ}(ho:ops[i]?=some o)(hw:Region.wanted o (yielded ops a.tmps)=true)(hk:b.kind≠.early){f:Φ}{xs:Array Operand}{ats:Array η}{args:Array Λ}(hop:o.op=.call { callee:= .value (.func f),args:=xs,argTypes:=ats })(ha:xs.map a.eval=args)(qW:((prog.funcs[f]?).any λfn=>fn.body.isSome)=true:=by kernel_rfl)(E6:((prog.funcs[f]?).any λfn=>fn.name== "runtime.NumGoroutine")=false:=by kernel_rfl):ξ prog main (G (b.at a (.inRegion ops (i::rest)::kk)) cs) w=.go (G (ζ.enter prog f args .normal) (b.at a (.inRegion ops (i::rest)::kk)::cs)) w #[]:=by
 subst ha;cases hf:prog.funcs[f]? with
 |none=>rw[hf]at qW;simp at qW
 |some fn=>
  rw[hf]at qW E6;simp only[Option.any_some]at qW E6;obtain⟨cc,hcc⟩:=zbP.1 qW;have hne:¬fn.name= "runtime.NumGoroutine" :=by simpa using E6
  have hr:(θ a.eval o).run prog w=.ok (.enter f (xs.map a.eval)) w:=by
   unfold θ;simp[hop,resolve,invoke,callFunc,hf,hcc,hne,υ,Deferred.ofValue,go_sem]
  have he:(θ a.eval o).events prog w #[]=#[]:=by
   unfold θ;simp[hop,resolve,invoke,callFunc,hf,hcc,hne,υ,Deferred.ofValue,go_sem]
  rw[stepG_enter ho hw hk hr,listed_none he]
theorem aco (w:Ξ):prog.globals.size≤(EU prog w).heap.size:=by rw[nJ];exact zab _
include PC PD yt CS hN hL in
theorem Jm (m:Nat):∀(n:Nat) (a:Act) (W:Ξ) (own:Nat→Prop),n≤s.length→s.length-n<m→SA a ch s n ty rt bs→py ro own W→prog.globals.size≤W.heap.size→Hx x y W→jU prog ro ch (Jd prog cv.tWg x y) ((aH m s n).map aK) own (G ((base 26).at a [.code (CY f26),.inLoop (CY f26),.inBlock 0]) (Vo prog.funcs.size f24 Wg T)) W:=by
 induction m with
 |zero=>intro n a W own _ h;omega
 |succ m ih=>
  intro n a W own hn hm hS hH hb hP;obtain⟨rest,hgp,uk⟩:∃rest,(aH (m+1) s n).map aK=aK (aO s n)::rest∧rest=if(aO s n).lastB then[]else(aH m s (aO s n).jZ).map aK:=by
   refine⟨_,?_,rfl⟩;rw[aH];split<;>simp
  rw[hgp,dM];refine af.silent rfl (λ_=>stepG_block (id:=1) (c:=inS f26)) ?_;refine af.silent rfl (λ_=>zaR (x:= .region 2 (r2 f26) false) (y:=in3 f26)) ?_;refine af.silent rfl (λ_=>zaU) ?_;refine af.mv (ops:=r2 f26) (i:=0) (rest:=[1,2,3,4]) rfl rfl (by decide) (dd:=some 7) rfl (.inl rfl) hS.txt ?_;have hS1:=hS.put (t:=7) (v:= .string ⟨⟨s⟩⟩) (by decide) (by decide) (by decide);have h7:(a.put (some 7) (.string ⟨⟨s⟩⟩)).eval (.tmp 7)=.string ⟨⟨s⟩⟩:=aW (by rw[hS.size];decide);generalize a.put (some 7) (.string ⟨⟨s⟩⟩)=a1 at *;refine af.mv (ops:=r2 f26) (i:=1) (rest:=[2,3,4]) rfl rfl (by decide) (dd:=some 8) rfl (.inl rfl) hS1.here ?_;have wy:=hS1.put (t:=8) (v:= Γ Δ n) (by decide) (by decide) (by decide);have h8:(a1.put (some 8) (Γ Δ n)).eval (.tmp 8)=Γ Δ n:=aW (by rw[hS1.size];decide);have h7':(a1.put (some 8) (Γ Δ n)).eval (.tmp 7)=.string ⟨⟨s⟩⟩:=(aB (by decide)).trans h7;generalize a1.put (some 8) (Γ Δ n)=a2 at *;refine af.call' l4 (cs:=Vo prog.funcs.size f24 Wg T) (f:=47) (args:=#[.string ⟨⟨s⟩⟩,Γ Δ n]) acm (λv hv=>?_) (Qv:=λv=>v=aK (aO s n)) (λv hv=>hv▸eM _) (c:=(base 26).at a2 (.inRegion (r2 f26) [2,3,4]::.code (in3 f26)::kS f26)) rfl (λw₁=>?_) hb hH (λw' _=>hN n w' hn) ?_
  ·simp only[zbX,zaI,zbY,or_false]at hv;rcases hv with rfl|rfl
   ·exact L3 _
   ·exact CX _ _
  ·exact jB (ops:=r2 f26) (i:=2) rfl rfl (by decide) rfl (by simp[h7',h8])
  rintro _ W1 ael rfl Vp hH1 acp Fs;rw[zbT];change af _ _ _ _ _ (G ((base 26).at (a2.put (some 9) (aK (aO s n))) _) _) _;have rq:=wy.put (t:=9) (v:=aK (aO s n)) (by decide) (by decide) (by decide);have h9:(a2.put (some 9) (aK (aO s n))).eval (.tmp 9)=aK (aO s n):=aW (by rw[wy.size];decide);generalize a2.put (some 9) (aK (aO s n))=a3 at *;have hb1:prog.globals.size≤W1.heap.size:=zaj hb Fs;have hP1:Hx x y W1:=hP.on yt CS λb hb=>acp b (.inr hb);have Vq:=At.empty (S:=Sc) hH1 hb1;obtain⟨i76,Tc,L5⟩:=zav.1 qh;simp only[zah]at L5;have hg0:=aco W1;generalize dT jR prog.globals.size W1.heap.size=ρ0 at Vq;generalize EU prog W1=w0 at Vq hg0;refine af.Lm l4 (ops:=r2 f26) (i:=3) (rest:=[4]) rfl rfl (by decide) (dd:=some 5) rfl rfl Tc L5.2 Vq ?_;intro w1 wE W2 acr e1 PH Fu;have hs1:w1.heap.size=w0.heap.size:=by rw[e1]
  rw[←hs1];have lL:=rq.put (t:=5) (v:= .pointer (some ⟨wE w1.heap.size,0,none⟩)) (by decide) (by decide) (by decide);have h5:(a3.put (some 5) (.pointer (some ⟨wE w1.heap.size,0,none⟩))).eval (.tmp 5)=.pointer (some ⟨wE w1.heap.size,0,none⟩):=aW (by rw[rq.size];decide);have h9':(a3.put (some 5) (.pointer (some ⟨wE w1.heap.size,0,none⟩))).eval (.tmp 9)=aK (aO s n):=(aB (by decide)).trans h9;generalize a3.put (some 5) (.pointer (some ⟨wE w1.heap.size,0,none⟩))=a4 at *;have hg1:prog.globals.size≤w1.heap.size:=by omega
  refine af.storeT l4 (ops:=r2 f26) (i:=4) (rest:=[]) rfl rfl (by decide) (dd:=none) rfl (s:=5) (t:=9) (by decide) rfl (c:=ek ⟨0,0,0,[],0,0,0⟩) (c':=ek (aO s n)) (xa _) rfl (L4 _) PH h5 (by rw[h9'];exact(eM _ _).symm) (eM _ _) hg1 ?_;intro w2 E0 W3 acs e2 Vr Vs;rw[wA];have hs2:w2.heap.size=w1.heap.size:=by rw[e2]
  have hr2:E0 w2.heap.size=wE w1.heap.size:=by rw[hs2];exact Vs.agree _ (by rw[bJ];omega)
  rw[←hr2]at h5;have Td:Hx x y W3:=(hP1.on yt CS Fu.ro).on yt CS Vs.ro;have hg2:prog.globals.size≤w2.heap.size:=by omega
  refine af.silent rfl (λ_=>zaX) ?_;refine af.silent rfl (λ_=>zaR (x:= .region 3 (r3 f26) false) (y:=Tb f26)) ?_;refine af.silent rfl (λ_=>zaU) ?_;refine af.mv (ops:=r3 f26) (i:=0) (rest:=[1,2]) rfl rfl (by decide) (dd:=some 10) rfl (.inl rfl) lL.chan ?_;have vp:=lL.put (t:=10) (v:= .chan (some ch)) (by decide) (by decide) (by decide);have h10:(a4.put (some 10) (.chan (some ch))).eval (.tmp 10)=.chan (some ch):=aW (by rw[lL.size];decide);have XV:(a4.put (some 10) (.chan (some ch))).eval (.tmp 5)=.pointer (some ⟨E0 w2.heap.size,0,none⟩):=(aB (by decide)).trans h5;generalize a4.put (some 10) (.chan (some ch))=a5 at *;refine af.loadT l4 (ops:=r3 f26) (i:=1) (rest:=[2]) rfl rfl (by decide) (dd:=some 11) rfl (s:=5) rfl underlying76 rfl (xa _) Vr XV hg2 ?_;intro w3 L6 W4 acu e3 PK XW;have hs3:w3.heap.size=w2.heap.size:=by rw[e3]
  have hr3:L6 w3.heap.size=E0 w2.heap.size:=by rw[hs3];exact XW.agree _ (by rw[bJ];omega)
  rw[←hr3]at XV;have L8:Hx x y W4:=Td.on yt CS XW.ro;have hg3:prog.globals.size≤w3.heap.size:=by omega
  rw[show rv L6 (.agg (ek (aO s n)))=aK (aO s n) from eM _ _];have Ot:=vp.put (t:=11) (v:=aK (aO s n)) (by decide) (by decide) (by decide);have h11:(a5.put (some 11) (aK (aO s n))).eval (.tmp 11)=aK (aO s n):=aW (by rw[vp.size];decide);have acv:(a5.put (some 11) (aK (aO s n))).eval (.tmp 10)=.chan (some ch):=(aB (by decide)).trans h10;have PL:(a5.put (some 11) (aK (aO s n))).eval (.tmp 5)=.pointer (some ⟨L6 w3.heap.size,0,none⟩):=(aB (by decide)).trans XV;generalize a5.put (some 11) (aK (aO s n))=a6 at *;refine .stop λaG hr=>?_;refine⟨rfl,.tuple #[],?_,?_⟩
  ·have hrr:(θ a6.eval (r3 f26)[2]).run prog aG=.ok (.comm #[scase ch (aK (aO s n)) (.tuple #[])] true .send) aG:=by
    show(pure (.comm #[{ chan:=a6.eval (.tmp 10),send:=some (a6.eval (.tmp 11)),zero:= .tuple #[] }] true .send):Sem Next).run prog aG=_;rw[acv,h11];rfl
   rw[stepG_comm (ops:=r3 f26) (i:=2) rfl rfl (by decide) hrr,listed_none rfl];rfl
  show jU _ _ _ _ _ _ (G (((base 26).at a6 (.inRegion (r3 f26) [2]::.code (Tb f26)::kS f26)).finish ι) (Vo prog.funcs.size f24 Wg T)) aG;rw[zbT];change jU _ _ _ _ _ _ (G ((base 26).at a6 (.inRegion (r3 f26) []::.code (Tb f26)::kS f26)) (Vo prog.funcs.size f24 Wg T)) aG;obtain⟨hA4,hO4⟩:=PK.rely hr;generalize dT L6 (w3.alloc (Obj.cells (ek (aO s n)) 76)).heap.size aG.heap.size=ρ4 at hA4 hO4;have hr4:ρ4 w3.heap.size=L6 w3.heap.size:=hO4.agree _ (by rw[bJ];omega);rw[←hr4]at PL;have Vt:Hx x y aG:=L8.on yt CS hO4.ro;have qA:prog.globals.size≤aG.heap.size:=hA4.uH.px;clear Vq PH Vr PK Fu Vs XW hO4 hP hP1 Td L8;rw[dM];refine af.silent rfl (λ_=>zaX) ?_;refine af.silent rfl (λ_=>zaR (x:=cY (Tb f26)) (y:= .region 5 (r5 f26) false)) ?_;refine af.silent rfl (λ_=>zaR (x:= .region 4 (r4 f26) false) (y:=c4 f26)) ?_;refine af.silent rfl (λ_=>zaU) ?_;refine af.loadT l4 (ops:=r4 f26) (i:=0) (rest:=[1]) rfl rfl (by decide) (dd:=some 12) rfl (s:=5) rfl underlying76 rfl (xa _) hA4 PL hg3 ?_;intro w5 Hc W5 acw e5 PM hO5;have hs5:w5.heap.size=w3.heap.size:=by rw[e5]
  have Ou:Hc w5.heap.size=ρ4 w3.heap.size:=by rw[hs5];exact hO5.agree _ (by rw[bJ];omega)
  rw[←Ou]at PL;have XX:Hx x y W5:=Vt.on yt CS hO5.ro;have Vu:prog.globals.size≤w5.heap.size:=by omega
  rw[show rv Hc (.agg (ek (aO s n)))=aK (aO s n) from eM _ _];have hS7:=Ot.put (t:=12) (v:=aK (aO s n)) (by decide) (by decide) (by decide);have zE:(a6.put (some 12) (aK (aO s n))).eval (.tmp 12)=aK (aO s n):=aW (by rw[Ot.size];decide);have h5c:(a6.put (some 12) (aK (aO s n))).eval (.tmp 5)=.pointer (some ⟨Hc w5.heap.size,0,none⟩):=(aB (by decide)).trans PL;generalize a6.put (some 12) (aK (aO s n))=a7 at *;refine af.call' l4 (cs:=Vo prog.funcs.size f24 Wg T) (f:=48) (args:=#[aK (aO s n)]) acn (λv hv=>?_) (Qv:=λv=>v=.bool (aO s n).lastB) (λv hv=>hv▸Jl _) (c:=(base 26).at a7 (.inRegion (r4 f26) [1]::.code (c4 f26)::.code (.region 5 (r5 f26) false)::kS f26)) rfl (λw₁=>?_) PM.uH.px PM.hold (λw' _=>hL _ w') ?_
  ·simp only[zbX,zaI,zbY,or_false]at hv;subst hv;exact eM _
  ·exact jB (ops:=r4 f26) (i:=1) rfl rfl (by decide) rfl (by simp[zE])
  rintro _ W6 aem rfl ho6 hH6 acx XY;rw[zbT];change af _ _ _ _ _ (G ((base 26).at (a7.put (some 13) (.bool (aO s n).lastB)) _) _) _;obtain⟨hA6,Vv⟩:=PM.call acx XY ho6 hH6;generalize dT Hc (w5.alloc (Obj.cells (ek (aO s n)) 76)).heap.size W6.heap.size=ρ6 at hA6 Vv;have yu:ρ6 w5.heap.size=Hc w5.heap.size:=Vv.agree _ (by rw[bJ];omega);rw[←yu]at h5c;have XZ:Hx x y W6:=XX.on yt CS Vv.ro;have KB:=hS7.put (t:=13) (v:= .bool (aO s n).lastB) (by decide) (by decide) (by decide);have h13:(a7.put (some 13) (.bool (aO s n).lastB)).eval (.tmp 13)=.bool (aO s n).lastB:=aW (by rw[hS7.size];decide);have h5d:(a7.put (some 13) (.bool (aO s n).lastB)).eval (.tmp 5)=.pointer (some ⟨ρ6 w5.heap.size,0,none⟩):=(aB (by decide)).trans h5c;generalize a7.put (some 13) (.bool (aO s n).lastB)=a8 at *;refine af.silent rfl (λ_=>zaX) ?_;refine af.silent rfl (λ_=>stepG_cond (c:= .tmp 13) (x:= .ret) (y:= .skip) h13) ?_;by_cases rr:(aO s n).lastB=true
  ·rw[zac rr]at uk;rw[uk,rr,←dM];obtain⟨T8,D8⟩:=a8;have hD:D8=[fy (.chan (some ch)) ty rt bs]:=KB.defers;subst hD;exact LZ PC PD yt CS T T8 _ ty rt bs W6 XZ.1 XZ.2
  have L9:(aO s n).lastB=false:=by simpa using rr
  rw[zaa rr]at uk;rw[uk,L9];refine af.silent rfl (λ_=>stepG_skip) ?_;refine af.silent rfl (λ_=>zaU) ?_;refine af.SR l4 (ops:=r5 f26) (i:=0) (rest:=[1,2]) rfl rfl (by decide) (dd:=some 14) rfl (s:=5) (j:=2) (off:=2) rfl PF hA6 h5d Vu ?_;intro w7 ρ7 W7 aen e7 hA7 hO7;have hs7:w7.heap.size=w5.heap.size:=by rw[e7]
  rw[←hs7];have X0:=KB.put (t:=14) (v:= .pointer (some ⟨ρ7 w7.heap.size,2,none⟩)) (by decide) (by decide) (by decide);have uN:(a8.put (some 14) (.pointer (some ⟨ρ7 w7.heap.size,2,none⟩))).eval (.tmp 14)=.pointer (some ⟨ρ7 w7.heap.size,2,none⟩):=aW (by rw[KB.size];decide);generalize a8.put (some 14) (.pointer (some ⟨ρ7 w7.heap.size,2,none⟩))=a9 at *;have hP8:Hx x y W7:=XZ.on yt CS hO7.ro;refine af.Wz l4 (ops:=r5 f26) (i:=1) (rest:=[2]) rfl rfl (by decide) (dd:=some 15) rfl (s:=14) (off:=2) rfl (v:= Γ Δ (aO s n).jZ) (λw a h=>XT w a h) rfl hA7 uN (by omega) ?_;intro w8 ρ8 W8 acy e8 hA8 hO8;have hP9:Hx x y W8:=hP8.on yt CS hO8.ro;rw[CX];have Ma:=X0.put (t:=15) (v:= Γ Δ (aO s n).jZ) (by decide) (by decide) (by decide);have h15:(a9.put (some 15) (Γ Δ (aO s n).jZ)).eval (.tmp 15)=Γ Δ (aO s n).jZ:=aW (by rw[X0.size];decide);generalize a9.put (some 15) (Γ Δ (aO s n).jZ)=a10 at *;refine af.mv (ops:=r5 f26) (i:=2) (rest:=[]) rfl rfl (by decide) (dd:=some 4) rfl (.inr rfl) h15 ?_;have acz:SA (a10.put (some 4) (Γ Δ (aO s n).jZ)) ch s (aO s n).jZ ty rt bs:=⟨by rw[size_put];exact Ma.size,by rw[aB (by decide)];exact Ma.txt,by rw[aB (by decide)];exact Ma.chan,aW (by rw[Ma.size];decide),by rw[cD];exact Ma.defers⟩;generalize a10.put (some 4) (Γ Δ (aO s n).jZ)=a11 at *;refine af.silent rfl (λ_=>zaX) ?_;refine af.silent rfl (λ_=>stepG_inBlock) ?_;refine af.silent rfl (λ_=>stepG_inLoop) ?_;obtain⟨f1,f2,f3⟩:=tA hn;have f4:=f3 L9;have:=ih (aO s n).jZ a11 W8 acy f2 (by omega) acz hA8.hold hA8.uH.px hP9;rw[dM]at this;exact this
end
end Go.Ren
set_option linter.unusedSectionVars false
namespace Go.Ren
open Go.Proofs.Tryz
open Go Go.Conc Go.ConcX Go.RowKit Go.Conc.Lib Go.ConcX.Gen Go.Proofs Go.Loop
theorem Mb {e:η}(he:e=9∨e=77)(w:Ξ)(ad:Addr){v:Λ}(h:w.cell? ad=some v):(Θ e (.pointer (some ad))).run prog w=.ok v w∧∀ev∈(Θ e (.pointer (some ad))).events prog w #[],ev.loc=.cell ad∧ev.write=false:=by
 rcases he with rfl|rfl
 ·refine⟨by simp[go_sem,Θ,Ω,loadVar,isAgg,h],λev he=>?_⟩;have:(Θ 9 (.pointer (some ad))).events prog w #[]=(load ad).events prog w #[]:=by simp[go_sem,Θ,Ω,loadVar,isAgg]
  rw[this]at he;exact(events_load_at w ad _ #[] h ev he).resolve_left (by simp)
 ·refine⟨by simp[go_sem,Θ,Ω,loadVar,isAgg,h],λev he=>?_⟩;have:(Θ 77 (.pointer (some ad))).events prog w #[]=(load ad).events prog w #[]:=by simp[go_sem,Θ,Ω,loadVar,isAgg]
  rw[this]at he;exact(events_load_at w ad _ #[] h ev he).resolve_left (by simp)
def tB (Wg X Y:Nat):Deferred:={ target:= .fn (.func 24) #[.pointer (some ⟨Wg,0,none⟩),.pointer (some ⟨X,0,none⟩),.pointer (some ⟨Y,0,none⟩)],args:=#[] }
def RY (Wg X Y:Nat):Array Λ:=#[.pointer (some ⟨Wg,0,none⟩),.pointer (some ⟨X,0,none⟩),.pointer (some ⟨Y,0,none⟩),ι,ι,ι]
def yw (f:Func):Code:=f.body.getD .skip
theorem Jn (Wg X Y:Nat)(w:Ξ):ξ prog false (born prog (tB Wg X Y)) w=.go (G (LX.at ⟨RY Wg X Y,[]⟩ [.code (yw f24)]) [(rj prog.funcs.size)]) w #[]:=by
 simp[born,ξ,unwind,callDeferred,tB,invoke,callFunc,f24,GStep.after,G,ζ.enter,LX,baseD,ζ.at,RY,yw,rj,seen]
def X1 (f:Func):Array Oper:=ib (cY (yw f))
def a26 (s:List UInt8)(ch:Nat):Act:=⟨#[.string ⟨⟨s⟩⟩,.chan (some ch)]++Array.replicate 14 ι,[]⟩
variable {Wg Low ch:Nat}{x y:tu Wg Low}{ro:Nat→Prop}
section
variable (PC:x.C≠ch)(PD:y.C≠ch)(yt:ro x.C)(CS:ro y.C){s:List UInt8}
 (hN:∀(n:Nat) (w:Ξ),n≤s.length→π prog 47 #[.string ⟨⟨s⟩⟩,Γ Δ n] w λe _=>∃v,e=.returned v∧v=aK (aO s n))
 (hL:∀(t:Tok) (w:Ξ),π prog 48 #[aK t] w λe _=>∃v,e=.returned v∧v=.bool t.lastB)
include PC PD yt CS hN hL in
theorem Fx (W:Ξ)(hH:py ro (λ_=>False) W)(hb:prog.globals.size≤W.heap.size)(hP:Hx x y W)(hx:W.cell? ⟨x.C,0,none⟩=some (.string ⟨⟨s⟩⟩))(hy:W.cell? ⟨y.C,0,none⟩=some (.chan (some ch))):jU prog ro ch (Jd prog cv.tWg x y) ((aH (s.length+1) s 0).map aK) (λ_=>False) (born prog (tB Wg x.C y.C)) W:=by
 rw[dM];refine af.silent rfl (λ_=>Jn _ _ _ _) ?_;refine af.silent rfl (λ_=>zaR (x:= .region 0 (X1 f24) false) (y:= .region 1 (wU f24) false)) ?_;refine af.silent rfl (λ_=>zaU) ?_;refine af.silent rfl (λ_=>stepG_defer (ops:=X1 f24) (i:=0) (rest:=[]) rfl rfl (by decide) rfl) ?_;refine af.silent rfl (λ_=>zaX) ?_;refine af.silent rfl (λ_=>zaU) ?_;have hm:Array.map (⟨RY Wg x.C y.C,[]⟩:Act).eval #[Operand.tmp 0]=#[.pointer (some ⟨Wg,0,none⟩)]:=by simp[υ,RY]
 rw[hm];change af _ _ _ _ _ (G (LX.at ⟨RY Wg x.C y.C,[dcall 25 #[.pointer (some ⟨Wg,0,none⟩)]]⟩ [.inRegion (wU f24) [0,1,2]]) [(rj prog.funcs.size)]) W;refine af.Fv (ops:=(wU f24)) (i:=0) (rest:=[1,2]) rfl rfl (by decide) (dd:=some 3) rfl (e:=9) (x:= .tmp 1) rfl (ad:=⟨x.C,0,none⟩) rfl yt hx (λw h=>Mb (.inl rfl) w _ h) ?_;refine af.Fv (ops:=(wU f24)) (i:=1) (rest:=[2]) rfl rfl (by decide) (dd:=some 4) rfl (e:=77) (x:= .tmp 2) rfl (ad:=⟨y.C,0,none⟩) rfl CS hy (λw h=>Mb (.inr rfl) w _ h) ?_;refine af.silent rfl (λ_=>jB (ops:=(wU f24)) (i:=2) (rest:=[]) (f:=26) (args:=#[.string ⟨⟨s⟩⟩,.chan (some ch)]) rfl rfl (by decide) rfl (by simp[υ,Act.put,RY])) ?_;have he:=enter_at (P:=prog) (f:=26) (c:=yw f26) #[.string ⟨⟨s⟩⟩,.chan (some ch)] XS rfl;rw[he];obtain⟨T,hT⟩:∃T:Array Λ,T=(Act.put (Act.put ⟨RY Wg x.C y.C,[dcall 25 #[.pointer (some ⟨Wg,0,none⟩)]]⟩ (some 3) (.string ⟨⟨s⟩⟩)) (some 4) (.chan (some ch))).tmps:=⟨_,rfl⟩;change af _ _ _ _ _ (G ((base 26).at (a26 s ch) [.code (yw f26)]) [LX.at ⟨(Act.put (Act.put ⟨RY Wg x.C y.C,[dcall 25 #[.pointer (some ⟨Wg,0,none⟩)]]⟩ (some 3) (.string ⟨⟨s⟩⟩)) (some 4) (.chan (some ch))).tmps,[dcall 25 #[.pointer (some ⟨Wg,0,none⟩)]]⟩ [.inRegion (wU f24) [2]],(rj prog.funcs.size)]) W;rw[←hT];change af _ _ _ _ _ (G ((base 26).at (a26 s ch) [.code (yw f26)]) (Vo prog.funcs.size f24 Wg T)) W;refine af.silent rfl (λ_=>zaR (x:= .region 0 (X1 f26) false) (y:=bS (yw f26))) ?_;refine af.silent rfl (λ_=>zaU) ?_;have q0:(a26 s ch).eval (.tmp 0)=.string ⟨⟨s⟩⟩:=by simp[a26,υ]
 have q1:(a26 s ch).eval (.tmp 1)=.chan (some ch):=by simp[a26,υ]
 have qs:(a26 s ch).tmps.size=16:=by simp[a26]
 have qd:(a26 s ch).defers=[]:=rfl;generalize a26 s ch=a at *;refine af.mv (ops:=X1 f26) (i:=0) (rest:=[1]) rfl rfl (by decide) (dd:=some 6) rfl (.inl rfl) q1 ?_;have q6:(a.put (some 6) (.chan (some ch))).eval (.tmp 6)=.chan (some ch):=aW (by rw[qs];decide);have q0':(a.put (some 6) (.chan (some ch))).eval (.tmp 0)=.string ⟨⟨s⟩⟩:=(aB (by decide)).trans q0;have q1':(a.put (some 6) (.chan (some ch))).eval (.tmp 1)=.chan (some ch):=(aB (by decide)).trans q1;have qs':(a.put (some 6) (.chan (some ch))).tmps.size=16:=size_put.trans qs;have qd':(a.put (some 6) (.chan (some ch))).defers=[]:=cD.trans qd;generalize a.put (some 6) (.chan (some ch))=a1 at *;refine af.silent rfl (λ_=>rb (ops:=X1 f26) (i:=1) (rest:=[]) (x:=6) (ty:=116) rfl rfl (by decide) rfl) ?_;rw[q6,qd'];change af _ _ _ _ _ (G ((base 26).at ⟨a1.tmps,[fy (.chan (some ch)) 116 0 #[false]]⟩ _) _) _;have p0:(⟨a1.tmps,[fy (.chan (some ch)) 116 0 #[false]]⟩:Act).eval (.tmp 0)=.string ⟨⟨s⟩⟩:=q0';have p1:(⟨a1.tmps,[fy (.chan (some ch)) 116 0 #[false]]⟩:Act).eval (.tmp 1)=.chan (some ch):=q1';have ps:(⟨a1.tmps,[fy (.chan (some ch)) 116 0 #[false]]⟩:Act).tmps.size=16:=qs';have pd:(⟨a1.tmps,[fy (.chan (some ch)) 116 0 #[false]]⟩:Act).defers=[fy (.chan (some ch)) 116 0 #[false]]:=rfl;generalize (⟨a1.tmps,[fy (.chan (some ch)) 116 0 #[false]]⟩:Act)=a2 at *;refine af.silent rfl (λ_=>zaX) ?_;refine af.silent rfl (λ_=>zaR (x:= .region 1 (ib (cY (bS (yw f26)))) false) (y:=bS (bS (yw f26)))) ?_;refine af.silent rfl (λ_=>zaU) ?_;refine af.mv (ops:=ib (cY (bS (yw f26)))) (i:=0) (rest:=[]) rfl rfl (by decide) (dd:=some 4) rfl (.inr rfl) (v:= Γ Δ 0) rfl ?_;have hSA:SA (a2.put (some 4) (Γ Δ 0)) ch s 0 116 0 #[false]:=⟨size_put.trans ps,(aB (by decide)).trans p0,(aB (by decide)).trans p1,aW (by rw[ps];decide),cD.trans pd⟩;generalize a2.put (some 4) (Γ Δ 0)=a3 at *;refine af.silent rfl (λ_=>zaX) ?_;refine af.silent rfl (λ_=>stepG_block (id:=0) (c:= .loop (CY f26))) ?_;refine af.silent rfl (λ_=>stepG_loop) ?_;have:=Jm PC PD yt CS (T:=T) hN hL (s.length+1) 0 a3 W (λ_=>False) (zap _) (by omega) hSA hH hb hP;rw[dM]at this;exact this
end
end Go.Ren
