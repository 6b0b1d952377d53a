import Derived.Conc.BesideWords
import Derived.Test.YtlhimdjkkiflhaaGreatDoorDeep13
namespace Go.Ren
open Go Go.Proofs
theorem gsz:Tryz.prog.globals.size=4:=by kernel_rfl
def Lc:List Nat:=[44,63,73,74,75,76,120,121,127,128,147,148,149,150,151,152,168,169,170,171,172,174,186,187,188,189,191,197,198,199,200,201,202,214,215,223,224,225,226,227,243,247,248,249,250,251]
def Fc:FuncId→Bool:=fun f=>Lc.any (·==f)
def Sc:Sd:=⟨fun f=>f==149||f==187||f==186,4,4⟩
def Lz:List Nat:=[17,19,21,22,24,26,27,28,29,30,38,39,40,41,42,44,45,46,47,48,60,61,62,63,64,65,66,67,73,74,75,76,77,78,79,80,81,82,83,95,96,97,98,99,100,101,102,103,104,105,106,127,128,129,130,147,148,149,150,151,152,153,154,155,156,157,158,159,160,161,162,163,174,175,176,177,178,179,180,186,187,188,189,190,191,192,193,194,195,196,202,203,204,205,214,215,216,217,218,219,220,221,222,228,229,230,231,232,238,239,240,241,242,244,245,246]
def Fz:FuncId→Bool:=fun f=>Lz.any (·==f)
def Sz:Sd:=⟨fun f=>f==149||f==187||f==186,0,4⟩
instance shutc:Shut Tryz.prog Sc:=⟨gsz.symm,by rw[gsz];exact Nat.le_refl _⟩
theorem twoz:Two Tryz.prog Sz Sc:=⟨gsz.symm,by rw[gsz];decide,fun _ h=>h⟩
def Qz (F:FuncId→Bool)(S:Sd)(f:FuncId):Prop:=okFun Tryz.prog S f∧∀ fn c,Tryz.prog.funcs[f]? =some fn→fn.body=some c→okCode Tryz.prog F S c=true
def qB (P:Program)(F:FuncId→Bool)(S:Sd):Option Func→Bool
 |some g=>!(g.name== "runtime.NumGoroutine")&&(match g.body with|some c=>okCode P F S c|none=>false)
 |none=>false
theorem qz_of {F:FuncId→Bool}{S:Sd}{f:FuncId}(h:qB Tryz.prog F S Tryz.prog.funcs[f]? =true):Qz F S f:=by
 cases hg:Tryz.prog.funcs[f]? with
 |none=>rw[hg] at h;cases h
 |some g=>
  rw[hg] at h
  simp only[qB,Bool.and_eq_true,Bool.not_eq_true'] at h
  obtain⟨hn,hc⟩:=h
  cases hb:g.body with
  |none=>rw[hb] at hc;cases hc
  |some c0=>
   rw[hb] at hc
   refine⟨⟨g,hg,hn,.inl (by rw[hb];rfl)⟩,fun fn c h1 h2=>?_⟩
   rw[hg] at h1
   cases h1
   rw[hb] at h2
   cases h2
   exact hc
theorem fc {p:Nat→Prop}{a:Nat}{l:List Nat}(h:p a)(t:∀ x∈l,p x):∀ x∈a::l,p x:=List.forall_mem_cons.2 ⟨h,t⟩
theorem qz_ext {F:FuncId→Bool}{S:Sd}{f:FuncId}{g:Func}{e:Array Value→Sem Value}(h:Tryz.prog.funcs[f]? =some g)(hn:(g.name== "runtime.NumGoroutine")=false)(hb:g.body.isNone=true)(hx:Extern.findNext g=none)(hf:Extern.find g=some e)(he:∀ (ρ:Rn) (args:Array Value),FixS S ρ→Eqv Tryz.prog ρ (VV ρ) (e args) (e (args.map (rv ρ)))):Qz F S f:=by
 refine⟨⟨g,h,hn,.inr ⟨hb,hx,e,hf,fun ρ args _ hfx=>he ρ args hfx⟩⟩,fun fn c h1 h2=>?_⟩
 rw[h] at h1
 cases h1
 rw[h2] at hb
 cases hb
theorem qc44:Qz Fc Sc 44:=qz_of (by kernel_rfl)
theorem qc63:Qz Fc Sc 63:=qz_of (by kernel_rfl)
theorem qc73:Qz Fc Sc 73:=qz_of (by kernel_rfl)
theorem qc74:Qz Fc Sc 74:=qz_of (by kernel_rfl)
theorem qc75:Qz Fc Sc 75:=qz_of (by kernel_rfl)
theorem qc76:Qz Fc Sc 76:=qz_of (by kernel_rfl)
theorem qc120:Qz Fc Sc 120:=qz_of (by kernel_rfl)
theorem qc121:Qz Fc Sc 121:=qz_of (by kernel_rfl)
theorem qc127:Qz Fc Sc 127:=qz_of (by kernel_rfl)
theorem qc128:Qz Fc Sc 128:=qz_of (by kernel_rfl)
theorem qc147:Qz Fc Sc 147:=qz_of (by kernel_rfl)
theorem qc148:Qz Fc Sc 148:=qz_of (by kernel_rfl)
theorem qc149:Qz Fc Sc 149:=qz_of (by kernel_rfl)
theorem qc150:Qz Fc Sc 150:=qz_of (by kernel_rfl)
theorem qc151:Qz Fc Sc 151:=qz_of (by kernel_rfl)
theorem qc152:Qz Fc Sc 152:=qz_of (by kernel_rfl)
theorem qc168:Qz Fc Sc 168:=qz_of (by kernel_rfl)
theorem qc169:Qz Fc Sc 169:=qz_of (by kernel_rfl)
theorem qc170:Qz Fc Sc 170:=qz_of (by kernel_rfl)
theorem qc171:Qz Fc Sc 171:=qz_of (by kernel_rfl)
theorem qc172:Qz Fc Sc 172:=qz_of (by kernel_rfl)
theorem qc174:Qz Fc Sc 174:=qz_of (by kernel_rfl)
theorem qc186:Qz Fc Sc 186:=qz_of (by kernel_rfl)
theorem qc187:Qz Fc Sc 187:=qz_of (by kernel_rfl)
theorem qc188:Qz Fc Sc 188:=qz_of (by kernel_rfl)
theorem qc189:Qz Fc Sc 189:=qz_of (by kernel_rfl)
theorem qc191:Qz Fc Sc 191:=qz_of (by kernel_rfl)
theorem qc197:Qz Fc Sc 197:=qz_of (by kernel_rfl)
theorem qc198:Qz Fc Sc 198:=qz_of (by kernel_rfl)
theorem qc199:Qz Fc Sc 199:=qz_of (by kernel_rfl)
theorem qc200:Qz Fc Sc 200:=qz_of (by kernel_rfl)
theorem qc201:Qz Fc Sc 201:=qz_of (by kernel_rfl)
theorem qc202:Qz Fc Sc 202:=qz_ext (g:=Tryz.f202) (e:=Extern.BytealgIndexByte.indexByte) (by kernel_rfl) (by kernel_rfl) (by kernel_rfl) (by kernel_rfl) (by kernel_rfl) fun _ args hx=>e_indexByte args
theorem qc214:Qz Fc Sc 214:=qz_of (by kernel_rfl)
theorem qc215:Qz Fc Sc 215:=qz_ext (g:=Tryz.f215) (e:=Extern.AbiNoEscape.same) (by kernel_rfl) (by kernel_rfl) (by kernel_rfl) (by kernel_rfl) (by kernel_rfl) fun _ args hx=>e_same args
theorem qc223:Qz Fc Sc 223:=qz_of (by kernel_rfl)
theorem qc224:Qz Fc Sc 224:=qz_of (by kernel_rfl)
theorem qc225:Qz Fc Sc 225:=qz_of (by kernel_rfl)
theorem qc226:Qz Fc Sc 226:=qz_of (by kernel_rfl)
theorem qc227:Qz Fc Sc 227:=qz_of (by kernel_rfl)
theorem qc243:Qz Fc Sc 243:=qz_of (by kernel_rfl)
theorem qc247:Qz Fc Sc 247:=qz_of (by kernel_rfl)
theorem qc248:Qz Fc Sc 248:=qz_ext (g:=Tryz.f248) (e:=Extern.BytealgIndex.index) (by kernel_rfl) (by kernel_rfl) (by kernel_rfl) (by kernel_rfl) (by kernel_rfl) fun _ args hx=>e_xindex (fun g hg=>hx.l g (by rw[gsz] at hg;exact hg)) args
theorem qc249:Qz Fc Sc 249:=qz_of (by kernel_rfl)
theorem qc250:Qz Fc Sc 250:=qz_of (by kernel_rfl)
theorem qc251:Qz Fc Sc 251:=qz_of (by kernel_rfl)
theorem qz17:Qz Fz Sz 17:=qz_of (by kernel_rfl)
theorem qz19:Qz Fz Sz 19:=qz_of (by kernel_rfl)
theorem qz21:Qz Fz Sz 21:=qz_of (by kernel_rfl)
theorem qz22:Qz Fz Sz 22:=qz_of (by kernel_rfl)
theorem qz24:Qz Fz Sz 24:=qz_of (by kernel_rfl)
theorem qz26:Qz Fz Sz 26:=qz_of (by kernel_rfl)
theorem qz27:Qz Fz Sz 27:=qz_of (by kernel_rfl)
theorem qz28:Qz Fz Sz 28:=qz_of (by kernel_rfl)
theorem qz29:Qz Fz Sz 29:=qz_of (by kernel_rfl)
theorem qz30:Qz Fz Sz 30:=qz_of (by kernel_rfl)
theorem qz38:Qz Fz Sz 38:=qz_of (by kernel_rfl)
theorem qz39:Qz Fz Sz 39:=qz_of (by kernel_rfl)
theorem qz40:Qz Fz Sz 40:=qz_of (by kernel_rfl)
theorem qz41:Qz Fz Sz 41:=qz_of (by kernel_rfl)
theorem qz42:Qz Fz Sz 42:=qz_of (by kernel_rfl)
theorem qz44:Qz Fz Sz 44:=qz_of (by kernel_rfl)
theorem qz45:Qz Fz Sz 45:=qz_of (by kernel_rfl)
theorem qz46:Qz Fz Sz 46:=qz_of (by kernel_rfl)
theorem qz47:Qz Fz Sz 47:=qz_of (by kernel_rfl)
theorem qz48:Qz Fz Sz 48:=qz_of (by kernel_rfl)
theorem qz60:Qz Fz Sz 60:=qz_of (by kernel_rfl)
theorem qz61:Qz Fz Sz 61:=qz_of (by kernel_rfl)
theorem qz62:Qz Fz Sz 62:=qz_of (by kernel_rfl)
theorem qz63:Qz Fz Sz 63:=qz_of (by kernel_rfl)
theorem qz64:Qz Fz Sz 64:=qz_of (by kernel_rfl)
theorem qz65:Qz Fz Sz 65:=qz_of (by kernel_rfl)
theorem qz66:Qz Fz Sz 66:=qz_of (by kernel_rfl)
theorem qz67:Qz Fz Sz 67:=qz_of (by kernel_rfl)
theorem qz73:Qz Fz Sz 73:=qz_of (by kernel_rfl)
theorem qz74:Qz Fz Sz 74:=qz_of (by kernel_rfl)
theorem qz75:Qz Fz Sz 75:=qz_of (by kernel_rfl)
theorem qz76:Qz Fz Sz 76:=qz_of (by kernel_rfl)
theorem qz77:Qz Fz Sz 77:=qz_of (by kernel_rfl)
theorem qz78:Qz Fz Sz 78:=qz_of (by kernel_rfl)
theorem qz79:Qz Fz Sz 79:=qz_of (by kernel_rfl)
theorem qz80:Qz Fz Sz 80:=qz_of (by kernel_rfl)
theorem qz81:Qz Fz Sz 81:=qz_of (by kernel_rfl)
theorem qz82:Qz Fz Sz 82:=qz_of (by kernel_rfl)
theorem qz83:Qz Fz Sz 83:=qz_of (by kernel_rfl)
theorem qz95:Qz Fz Sz 95:=qz_of (by kernel_rfl)
theorem qz96:Qz Fz Sz 96:=qz_of (by kernel_rfl)
theorem qz97:Qz Fz Sz 97:=qz_of (by kernel_rfl)
theorem qz98:Qz Fz Sz 98:=qz_of (by kernel_rfl)
theorem qz99:Qz Fz Sz 99:=qz_of (by kernel_rfl)
theorem qz100:Qz Fz Sz 100:=qz_of (by kernel_rfl)
theorem qz101:Qz Fz Sz 101:=qz_of (by kernel_rfl)
theorem qz102:Qz Fz Sz 102:=qz_of (by kernel_rfl)
theorem qz103:Qz Fz Sz 103:=qz_of (by kernel_rfl)
theorem qz104:Qz Fz Sz 104:=qz_of (by kernel_rfl)
theorem qz105:Qz Fz Sz 105:=qz_of (by kernel_rfl)
theorem qz106:Qz Fz Sz 106:=qz_of (by kernel_rfl)
theorem qz127:Qz Fz Sz 127:=qz_of (by kernel_rfl)
theorem qz128:Qz Fz Sz 128:=qz_of (by kernel_rfl)
theorem qz129:Qz Fz Sz 129:=qz_of (by kernel_rfl)
theorem qz130:Qz Fz Sz 130:=qz_of (by kernel_rfl)
theorem qz147:Qz Fz Sz 147:=qz_of (by kernel_rfl)
theorem qz148:Qz Fz Sz 148:=qz_of (by kernel_rfl)
theorem qz149:Qz Fz Sz 149:=qz_of (by kernel_rfl)
theorem qz150:Qz Fz Sz 150:=qz_of (by kernel_rfl)
theorem qz151:Qz Fz Sz 151:=qz_of (by kernel_rfl)
theorem qz152:Qz Fz Sz 152:=qz_of (by kernel_rfl)
theorem qz153:Qz Fz Sz 153:=qz_of (by kernel_rfl)
theorem qz154:Qz Fz Sz 154:=qz_of (by kernel_rfl)
theorem qz155:Qz Fz Sz 155:=qz_of (by kernel_rfl)
theorem qz156:Qz Fz Sz 156:=qz_of (by kernel_rfl)
theorem qz157:Qz Fz Sz 157:=qz_of (by kernel_rfl)
theorem qz158:Qz Fz Sz 158:=qz_of (by kernel_rfl)
theorem qz159:Qz Fz Sz 159:=qz_of (by kernel_rfl)
theorem qz160:Qz Fz Sz 160:=qz_of (by kernel_rfl)
theorem qz161:Qz Fz Sz 161:=qz_of (by kernel_rfl)
theorem qz162:Qz Fz Sz 162:=qz_of (by kernel_rfl)
theorem qz163:Qz Fz Sz 163:=qz_of (by kernel_rfl)
theorem qz174:Qz Fz Sz 174:=qz_of (by kernel_rfl)
theorem qz175:Qz Fz Sz 175:=qz_of (by kernel_rfl)
theorem qz176:Qz Fz Sz 176:=qz_of (by kernel_rfl)
theorem qz177:Qz Fz Sz 177:=qz_of (by kernel_rfl)
theorem qz178:Qz Fz Sz 178:=qz_of (by kernel_rfl)
theorem qz179:Qz Fz Sz 179:=qz_of (by kernel_rfl)
theorem qz180:Qz Fz Sz 180:=qz_of (by kernel_rfl)
theorem qz186:Qz Fz Sz 186:=qz_of (by kernel_rfl)
theorem qz187:Qz Fz Sz 187:=qz_of (by kernel_rfl)
theorem qz188:Qz Fz Sz 188:=qz_of (by kernel_rfl)
theorem qz189:Qz Fz Sz 189:=qz_of (by kernel_rfl)
theorem qz190:Qz Fz Sz 190:=qz_of (by kernel_rfl)
theorem qz191:Qz Fz Sz 191:=qz_of (by kernel_rfl)
theorem qz192:Qz Fz Sz 192:=qz_of (by kernel_rfl)
theorem qz193:Qz Fz Sz 193:=qz_of (by kernel_rfl)
theorem qz194:Qz Fz Sz 194:=qz_of (by kernel_rfl)
theorem qz195:Qz Fz Sz 195:=qz_of (by kernel_rfl)
theorem qz196:Qz Fz Sz 196:=qz_of (by kernel_rfl)
theorem qz202:Qz Fz Sz 202:=qz_ext (g:=Tryz.f202) (e:=Extern.BytealgIndexByte.indexByte) (by kernel_rfl) (by kernel_rfl) (by kernel_rfl) (by kernel_rfl) (by kernel_rfl) fun _ args hx=>e_indexByte args
theorem qz203:Qz Fz Sz 203:=qz_of (by kernel_rfl)
theorem qz204:Qz Fz Sz 204:=qz_of (by kernel_rfl)
theorem qz205:Qz Fz Sz 205:=qz_of (by kernel_rfl)
theorem qz214:Qz Fz Sz 214:=qz_of (by kernel_rfl)
theorem qz215:Qz Fz Sz 215:=qz_ext (g:=Tryz.f215) (e:=Extern.AbiNoEscape.same) (by kernel_rfl) (by kernel_rfl) (by kernel_rfl) (by kernel_rfl) (by kernel_rfl) fun _ args hx=>e_same args
theorem qz216:Qz Fz Sz 216:=qz_of (by kernel_rfl)
theorem qz217:Qz Fz Sz 217:=qz_of (by kernel_rfl)
theorem qz218:Qz Fz Sz 218:=qz_of (by kernel_rfl)
theorem qz219:Qz Fz Sz 219:=qz_of (by kernel_rfl)
theorem qz220:Qz Fz Sz 220:=qz_of (by kernel_rfl)
theorem qz221:Qz Fz Sz 221:=qz_of (by kernel_rfl)
theorem qz222:Qz Fz Sz 222:=qz_of (by kernel_rfl)
theorem qz228:Qz Fz Sz 228:=qz_of (by kernel_rfl)
theorem qz229:Qz Fz Sz 229:=qz_of (by kernel_rfl)
theorem qz230:Qz Fz Sz 230:=qz_of (by kernel_rfl)
theorem qz231:Qz Fz Sz 231:=qz_of (by kernel_rfl)
theorem qz232:Qz Fz Sz 232:=qz_of (by kernel_rfl)
theorem qz238:Qz Fz Sz 238:=qz_of (by kernel_rfl)
theorem qz239:Qz Fz Sz 239:=qz_of (by kernel_rfl)
theorem qz240:Qz Fz Sz 240:=qz_of (by kernel_rfl)
theorem qz241:Qz Fz Sz 241:=qz_of (by kernel_rfl)
theorem qz242:Qz Fz Sz 242:=qz_of (by kernel_rfl)
theorem qz244:Qz Fz Sz 244:=qz_of (by kernel_rfl)
theorem qz245:Qz Fz Sz 245:=qz_of (by kernel_rfl)
theorem qz246:Qz Fz Sz 246:=qz_of (by kernel_rfl)
theorem zeroz:Tryz.prog.types.toList.all tyB=true:=by kernel_rfl
theorem allqc:∀ f∈Lc,Qz Fc Sc f:=fc qc44 <| fc qc63 <| fc qc73 <| fc qc74 <| fc qc75 <| fc qc76 <| fc qc120 <| fc qc121 <| fc qc127 <| fc qc128 <| fc qc147 <| fc qc148 <| fc qc149 <| fc qc150 <| fc qc151 <| fc qc152 <| fc qc168 <| fc qc169 <| fc qc170 <| fc qc171 <| fc qc172 <| fc qc174 <| fc qc186 <| fc qc187 <| fc qc188 <| fc qc189 <| fc qc191 <| fc qc197 <| fc qc198 <| fc qc199 <| fc qc200 <| fc qc201 <| fc qc202 <| fc qc214 <| fc qc215 <| fc qc223 <| fc qc224 <| fc qc225 <| fc qc226 <| fc qc227 <| fc qc243 <| fc qc247 <| fc qc248 <| fc qc249 <| fc qc250 <| fc qc251 <| fun x h=>by cases h
theorem memqc {f:FuncId}(h:Fc f=true):f∈Lc:=by
 unfold Fc at h
 rw[List.any_eq_true] at h
 obtain⟨x,hx,e⟩:=h
 rw[←(beq_iff_eq.1 e)]
 exact hx
theorem clozc:Clo Tryz.prog Fc Sc:=by
 refine⟨fun g hg=>?_,fun f hf=>(allqc f (memqc hf)).1,fun f fn c hf h1 h2=>(allqc f (memqc hf)).2 fn c h1 h2,zero_of zeroz⟩
 have hg':(g==149||g==187||g==186)=true:=hg
 simp only[Bool.or_eq_true,beq_iff_eq] at hg'
 rcases hg' with(rfl|rfl)|rfl<;>rfl
theorem allqz:∀ f∈Lz,Qz Fz Sz f:=fc qz17 <| fc qz19 <| fc qz21 <| fc qz22 <| fc qz24 <| fc qz26 <| fc qz27 <| fc qz28 <| fc qz29 <| fc qz30 <| fc qz38 <| fc qz39 <| fc qz40 <| fc qz41 <| fc qz42 <| fc qz44 <| fc qz45 <| fc qz46 <| fc qz47 <| fc qz48 <| fc qz60 <| fc qz61 <| fc qz62 <| fc qz63 <| fc qz64 <| fc qz65 <| fc qz66 <| fc qz67 <| fc qz73 <| fc qz74 <| fc qz75 <| fc qz76 <| fc qz77 <| fc qz78 <| fc qz79 <| fc qz80 <| fc qz81 <| fc qz82 <| fc qz83 <| fc qz95 <| fc qz96 <| fc qz97 <| fc qz98 <| fc qz99 <| fc qz100 <| fc qz101 <| fc qz102 <| fc qz103 <| fc qz104 <| fc qz105 <| fc qz106 <| fc qz127 <| fc qz128 <| fc qz129 <| fc qz130 <| fc qz147 <| fc qz148 <| fc qz149 <| fc qz150 <| fc qz151 <| fc qz152 <| fc qz153 <| fc qz154 <| fc qz155 <| fc qz156 <| fc qz157 <| fc qz158 <| fc qz159 <| fc qz160 <| fc qz161 <| fc qz162 <| fc qz163 <| fc qz174 <| fc qz175 <| fc qz176 <| fc qz177 <| fc qz178 <| fc qz179 <| fc qz180 <| fc qz186 <| fc qz187 <| fc qz188 <| fc qz189 <| fc qz190 <| fc qz191 <| fc qz192 <| fc qz193 <| fc qz194 <| fc qz195 <| fc qz196 <| fc qz202 <| fc qz203 <| fc qz204 <| fc qz205 <| fc qz214 <| fc qz215 <| fc qz216 <| fc qz217 <| fc qz218 <| fc qz219 <| fc qz220 <| fc qz221 <| fc qz222 <| fc qz228 <| fc qz229 <| fc qz230 <| fc qz231 <| fc qz232 <| fc qz238 <| fc qz239 <| fc qz240 <| fc qz241 <| fc qz242 <| fc qz244 <| fc qz245 <| fc qz246 <| fun x h=>by cases h
theorem memqz {f:FuncId}(h:Fz f=true):f∈Lz:=by
 unfold Fz at h
 rw[List.any_eq_true] at h
 obtain⟨x,hx,e⟩:=h
 rw[←(beq_iff_eq.1 e)]
 exact hx
theorem cloz:Clo Tryz.prog Fz Sz:=by
 refine⟨fun g hg=>?_,fun f hf=>(allqz f (memqz hf)).1,fun f fn c hf h1 h2=>(allqz f (memqz hf)).2 fn c h1 h2,zero_of zeroz⟩
 have hg':(g==149||g==187||g==186)=true:=hg
 simp only[Bool.or_eq_true,beq_iff_eq] at hg'
 rcases hg' with(rfl|rfl)|rfl<;>rfl
end Go.Ren
set_option linter.unusedSectionVars false
namespace Go.Ren
open Go Go.Conc Go.ConcX Go.RowKit Go.Conc.Lib Go.ConcX.Gen Go.Proofs
theorem fz26:Tryz.prog.funcs[71]? =some Tryz.f71:=by kernel_rfl
def b24:Frame:=baseD 69
def botN (n:Nat):Frame:={ (default:Frame) with fn:=n,defers:=[],mode:= .panicking [goexitEntry] }
theorem quitsTailz (T:Array Value):QuitsD Tryz.prog 2 0 (G { b24.at ⟨T,[]⟩ [] with mode:= .returning } [(botN Tryz.prog.funcs.size)]):=by
 refine QuitsD.ctl (g':=G (botN Tryz.prog.funcs.size) []) rfl (fun w=>?_) ?_
 ·simp[G,stepG,unwind,doReturn,results,Frame.at,b24,baseD,botN,Tryz.f69,seen,GStep.after,goexitEntry]
 refine QuitsD.ctl (g':={ G (botN Tryz.prog.funcs.size) [] with status:= .finished }) rfl (fun w=>?_) ⟨rfl,rfl⟩
 simp[G,stepG,unwind,botN,goexitEntry,Frame.catches]
 rfl
def opsF (f:Func):Array Oper:=match f.body with|some (.seq _ (.region _ ops _))=>ops|_=>#[]
set_option maxRecDepth 100000 in
theorem childEnd [Payload] {Wg C Low:Nat} [Shy Wg C] {vals:List Value}(hW:Wg<Low)(hC:C<Low)(hCW:C≠Wg)(T T':Array Value)(todo:List Item)(w:World)(hF:KCa linkz.tWg Wg w∧Full C vals w):
 Goes Tryz.prog false (RCa linkz.tWg Wg Low) (DCs none3 Wg C) (AtR0 Tryz.prog linkz.tWg Wg C Low vals) (4+23)
  (G { (base 71).at ⟨T',[]⟩ todo with mode:= .returning } [b24.at ⟨T,[dcall 70 #[.pointer (some ⟨Wg,0,none⟩)]]⟩ [.inRegion (opsF Tryz.f69) [2]],(botN Tryz.prog.funcs.size)]) w:=by
 u_leave0 fz26 (ka_rely hC hCW) hF
 u_c stepG_region_end (ka_rely hC hCW) hF
 u_c stepG_end (ka_rely hC hCW) hF
 u_in (ka_rely hC hCW) hF
 rw[stepG_unwind_enter rfl wz_done (nm_done linkz) rfl]
 simp only[goes_go]
 refine⟨by u_nil,?_⟩
 have hA:=@doneD _ linkz Tryz.prog wgz none3 Wg C Low _ vals hW hC hCW
 exact hA rfl (quitsTailz _) _ hF
theorem norace26:(Tryz.prog.funcs[71]?).any (·.norace)=false:=by kernel_rfl
theorem atCloseW_send {Wg Low ch:Nat}{x y:Pay Wg Low}{own:Nat→Prop}(hxc:x.C≠ch)(hyc:y.C≠ch)(T T':Array Value)(todo:List Item)(ty rt:TypeId)(bs:Array Bool)(w:World)
 (hx:w.heap[x.C]? =some (.cells x.vals.toArray x.pl.ety))(hy:w.heap[y.C]? =some (.cells y.vals.toArray y.pl.ety)):
 AtCloseW Tryz.prog ch (FinC Tryz.prog linkz.tWg x y) own (G { (base 71).at ⟨T',[dclose (.chan (some ch)) ty rt bs]⟩ todo with mode:= .returning } [b24.at ⟨T,[dcall 70 #[.pointer (some ⟨Wg,0,none⟩)]]⟩ [.inRegion (opsF Tryz.f69) [2]],(botN Tryz.prog.funcs.size)]) w:=by
 refine⟨rfl,rfl,G { (base 71).at ⟨T',[]⟩ todo with mode:= .returning } [b24.at ⟨T,[dcall 70 #[.pointer (some ⟨Wg,0,none⟩)]]⟩ [.inRegion (opsF Tryz.f69) [2]],(botN Tryz.prog.funcs.size)],rfl,fun s r tm hc=>⟨stepG_unwind_close rfl hc norace26,fun hwg=>⟨?_,?_⟩⟩⟩
 ·exact⟨_,@childEnd x.pl Wg x.C Low (shyR Wg x.C Low noSt x.hW x.hC) x.vals x.hW x.hC x.hCW T T' todo _ ⟨.inl hwg,fun _=>(setChan_ne hxc).trans hx⟩⟩
 ·exact⟨_,@childEnd y.pl Wg y.C Low (shyR Wg y.C Low noSt y.hW y.hC) y.vals y.hW y.hC y.hCW T T' todo _ ⟨.inl hwg,fun _=>(setChan_ne hyc).trans hy⟩⟩
theorem send_ret {Wg Low ch:Nat}{x y:Pay Wg Low}{ro own:Nat→Prop}(hxc:x.C≠ch)(hyc:y.C≠ch)(hxr:ro x.C)(hyr:ro y.C)(T T':Array Value)(k:List Item)(ty rt:TypeId)(bs:Array Bool)(w:World)
 (hx:w.heap[x.C]? =some (.cells x.vals.toArray x.pl.ety))(hy:w.heap[y.C]? =some (.cells y.vals.toArray y.pl.ety)):
 SendsW Tryz.prog ro ch (FinC Tryz.prog linkz.tWg x y) [] own (G ((base 71).at ⟨T',[dclose (.chan (some ch)) ty rt bs]⟩ (.code .ret::k)) [b24.at ⟨T,[dcall 70 #[.pointer (some ⟨Wg,0,none⟩)]]⟩ [.inRegion (opsF Tryz.f69) [2]],(botN Tryz.prog.funcs.size)]) w:=
 Walks.silent rfl (fun _=>stepG_ret') (.stop fun w₁ hr=>atCloseW_send hxc hyc T T' _ ty rt bs w₁ ((hr.block _ (.inr hxr)).trans hx) ((hr.block _ (.inr hyr)).trans hy))
end Go.Ren
namespace Go.Loop
def digB (c:Int):Bool:=decide (48≤c∧c≤57)
def letB (c:Int):Bool:=decide ((97≤c∧c≤122)∨(65≤c∧c≤90))
def signB (c:Int):Bool:=decide (c=43∨c=45∨c=42∨c=47∨c=60∨c=62∨c=61∨c=63∨c=33∨c=46∨c=95)
def wordB (c:Int):Bool:=letB c||digB c||signB c
def wordU (c:UInt8):Bool:=wordB (c.toNat:Int)
def runL (p:Int→Bool):List UInt8→Nat
 |[]=>0
 |c::r=>if p (c.toNat:Int) then runL p r+1 else 0
def mustNum:List UInt8→Bool
 |[]=>false
 |c::r=>if c.toNat=43∨c.toNat=45 then(match r with|[]=>false|d::_=>digB (d.toNat:Int)) else digB (c.toNat:Int)
def isSym (l:List UInt8):Bool:=!l.isEmpty&&!(l==[46])&&!mustNum l&&l.all wordU
def numB (n d:Int):Bool:=decide (1≤d∧d≤1000000∧-1000000≤n∧n≤1000000∧Int.gcd n d=1)
theorem lowest_same (n d:Int)(hd:1≤d):(d/((Int.gcd n d:Nat):Int)==d)=decide (Int.gcd n d=1):=by
 have hp:0<Int.gcd n d:=Int.gcd_pos_of_ne_zero_right _ (by omega)
 rw[Bool.eq_iff_iff,beq_iff_eq,decide_eq_true_iff]
 constructor
 ·intro h
  by_cases h1:Int.gcd n d=1
  ·exact h1
  ·exfalso
   have h2:(2:Int)≤((Int.gcd n d:Nat):Int):=by omega
   have:d/((Int.gcd n d:Nat):Int)<d:=Int.ediv_lt_self_of_pos_of_ne_one (by omega) (by omega)
   omega
 ·intro h;rw[h];simp
theorem mustNum_plain (c:UInt8)(r:List UInt8)(h1:¬ (c.toNat:Int)=43)(h2:¬ (c.toNat:Int)=45):mustNum (c::r)=digB (c.toNat:Int):=by
 simp only[mustNum];rw[if_neg (by omega)]
theorem mustNum_sign0 (c:UInt8)(h:(c.toNat:Int)=43∨(c.toNat:Int)=45):mustNum [c]=false:=by
 simp only[mustNum];rw[if_pos (by omega)]
theorem mustNum_sign1 (c d:UInt8)(r:List UInt8)(h:(c.toNat:Int)=43∨(c.toNat:Int)=45):mustNum (c::d::r)=digB (d.toNat:Int):=by
 simp only[mustNum];rw[if_pos (by omega)]
theorem runL_all (p:Int→Bool)(l:List UInt8):decide (runL p l=l.length)=l.all (fun c=>p (c.toNat:Int)):=by
 induction l with
 |nil=>rfl
 |cons c r ih=>
  simp only[runL,List.all_cons,List.length_cons]
  by_cases h:p (c.toNat:Int)=true
  ·simp only[h,if_true,Bool.true_and,←ih];rw[Bool.eq_iff_iff];simp
  ·simp[h]
def nameOf (n:Int):List UInt8:=
 if n=32 then[115,112,97,99,101] else if n=10 then[110,101,119,108,105,110,101] else if n=9 then[116,97,98]
 else if n=0 then[110,117,108] else if n=127 then[100,101,108,101,116,101] else if n=27 then[101,115,99,97,112,101] else[]
def hasName (n:Int):Bool:=decide (n=32∨n=10∨n=9∨n=0∨n=127∨n=27)
def charB (n:Int):Bool:=hasName n||decide (33≤n∧n≤126)
def codeOf (l:List UInt8):Int:=
 if l=[115,112,97,99,101] then 32 else if l=[110,101,119,108,105,110,101] then 10 else if l=[116,97,98] then 9
 else if l=[110,117,108] then 0 else if l=[100,101,108,101,116,101] then 127 else if l=[101,115,99,97,112,101] then 27 else -1
structure Tok where
 kind:Nat
 from_:Nat
 to_:Nat
 text:List UInt8
 n:Int
 d:Int
 fault:Int
deriving DecidableEq
def tok0 (k a e:Nat):Tok:=⟨k,a,e,[],0,0,0⟩
def wrongP (a:Nat):Tok:=tok0 1 a a
def endP (s:List UInt8):Tok:=tok0 0 s.length s.length
def Tok.lastB (t:Tok):Bool:=decide (t.kind=0∨t.kind=1)
def blankB (c:UInt8):Bool:=decide (c.toNat=32∨c.toNat=9∨c.toNat=10)
def lineL:List UInt8→Nat
 |[]=>0
 |c::r=>if c=10 then 0 else lineL r+1
def commL:Nat→List UInt8→Nat×Bool
 |o,c::d::r=>
  if c=35∧d=124 then((commL (o+1) r).1+2,(commL (o+1) r).2)
  else if c=124∧d=35 then(if o≤1 then(2,true) else((commL (o-1) r).1+2,(commL (o-1) r).2))
  else((commL o (d::r)).1+1,(commL o (d::r)).2)
 |_,[_]=>(1,false)
 |_,[]=>(0,false)
def hashBar:List UInt8→Bool
 |c::d::_=>decide (c=35∧d=124)
 |_=>false
def skipL:Nat→Bool→List UInt8→Nat×Bool
 |0,b,_=>(0,b)
 |_+1,b,[]=>(0,b)
 |n+1,b,c::r=>
  if blankB c then((skipL n b r).1+1,(skipL n b r).2)
  else if c.toNat=59 then((skipL n b (r.drop (lineL r))).1+(lineL r+1),(skipL n b (r.drop (lineL r))).2)
  else if hashBar (c::r) then((skipL n (commL 0 (c::r)).2 ((c::r).drop (commL 0 (c::r)).1)).1+(commL 0 (c::r)).1,(skipL n (commL 0 (c::r)).2 ((c::r).drop (commL 0 (c::r)).1)).2)
  else(0,b)
def skipP (s:List UInt8)(a:Nat):Nat:=a+(skipL (s.drop a).length true (s.drop a)).1
def escB (c:UInt8):Option UInt8:=if c=92∨c=34 then some c else if c=110 then some 10 else if c=116 then some 9 else none
inductive TextR where
 |fin
 |bad
 |ok (e:Nat) (b:List UInt8)
def textL:Nat→List UInt8→List UInt8→TextR
 |_,_,[]=> .fin
 |i,acc,[c]=>if c=34 then .ok (i+1) acc else .fin
 |i,acc,c::e::r=>if c=34 then .ok (i+1) acc else if c=92 then(match escB e with|none=> .bad |some b=>textL (i+2) (acc++[b]) r) else textL (i+1) (acc++[c]) (e::r)
def textP (s:List UInt8)(a:Nat):Tok:=
 match textL (a+1) [] (s.drop (a+1)) with
 | .fin=>endP s
 | .bad=>wrongP a
 | .ok e b=>{ tok0 8 a e with text:=b }
def codeP (l:List UInt8):Option Int:=if 0≤codeOf l then some (codeOf l) else none
def cutP (s:List UInt8)(a b:Nat):List UInt8:=(s.drop a).take (b-a)
def charP (s:List UInt8)(a:Nat):Tok:=
 if 1<runL letB (s.drop (a+2)) then
  (match codeP (cutP s (a+2) (a+2+runL letB (s.drop (a+2)))) with
   |none=>wrongP a
   |some k=>{ tok0 9 a (a+2+runL letB (s.drop (a+2))) with n:=k })
 else match s.drop (a+2) with
  |[]=>wrongP a
  |c::_=>if 33≤c.toNat∧c.toNat≤126 then { tok0 9 a (a+3) with n:=(c.toNat:Int) } else wrongP a
def amountFrom (n:Int)(l:List UInt8):Int:=l.foldl (fun n c=>min (n*10+((c.toNat:Int)-48)) 1000001) n
def amountP (l:List UInt8):Int:=amountFrom 0 l
def labelP (s:List UInt8)(a:Nat):Option Tok:=
 let k:=runL digB (s.drop (a+1))
 if k=0∨3<k then none
 else match s.drop (a+1+k) with
  |[]=>none
  |c::_=>if c.toNat=61 then some { tok0 10 a (a+1+k+1) with n:=amountP (cutP s (a+1) (a+1+k)) } else if c.toNat=35 then some { tok0 11 a (a+1+k+1) with n:=amountP (cutP s (a+1) (a+1+k)) } else none
def truthP (s:List UInt8)(a:Nat):Tok:=
 let e:=a+1+runL wordB (s.drop (a+1))
 let w:=cutP s (a+1) e
 if w=[116]∨w=[116,114,117,101] then { tok0 12 a e with n:=1 } else if w=[102]∨w=[102,97,108,115,101] then tok0 12 a e else wrongP a
def hashP (s:List UInt8)(a:Nat):Tok:=
 match s.drop (a+1) with
 |[]=>(labelP s a).getD (truthP s a)
 |c::_=>if c.toNat=40 then tok0 5 a (a+2) else if c.toNat=59 then tok0 6 a (a+2) else if c.toNat=92 then charP s a else(labelP s a).getD (truthP s a)
def slashL:List UInt8→Option (List UInt8×List UInt8)
 |[]=>none
 |c::r=>if c.toNat=47 then some ([],r) else(slashL r).map fun p=>(c::p.1,p.2)
def digsB (l:List UInt8):Bool:=!l.isEmpty&&l.all fun c=>digB (c.toNat:Int)
def numberOf (neg:Bool)(l:List UInt8):Option (Int×Int×Int):=
 let p:=(slashL l).getD (l,[49])
 if digsB p.1&&digsB p.2 then
  (let n:=amountP p.1
   let d:=amountP p.2
   if 1000000<n∨1000000<d then some (0,0,7)
   else if d=0 then some (0,0,3)
   else let m:=if neg then -n else n
    some (m.tdiv (Int.gcd m d),d/(Int.gcd m d),0))
 else none
def numberP:List UInt8→Option (Int×Int×Int)
 |[]=>none
 |c::r=>if c.toNat=45 then numberOf true r else if c.toNat=43 then numberOf false r else numberOf false (c::r)
def wordP (s:List UInt8)(a:Nat):Tok:=
 let e:=a+runL wordB (s.drop a)
 let w:=cutP s a e
 if w=[46] then tok0 7 a e
 else if !mustNum w then { tok0 14 a e with text:=w }
 else match numberP w with
  |none=>wrongP a
  |some (n,d,f)=>{ tok0 13 a e with n:=n,d:=d,fault:=f }
def tokAt (s:List UInt8)(a:Nat):Tok:=
 match s.drop a with
 |[]=>endP s
 |c::_=>
  if c.toNat=40 then tok0 2 a (a+1) else if c.toNat=41 then tok0 3 a (a+1) else if c.toNat=39 then tok0 4 a (a+1)
  else if c.toNat=34 then textP s a else if c.toNat=35 then hashP s a else if wordB (c.toNat:Int) then wordP s a else wrongP a
def nextP (s:List UInt8)(a:Nat):Tok:=tokAt s (skipP s a)
def gatherP:Nat→List UInt8→Nat→List Tok
 |0,_,_=>[]
 |n+1,s,a=>if(nextP s a).lastB then[nextP s a] else nextP s a::gatherP n s (nextP s a).to_
theorem lineL_le:∀ l:List UInt8,lineL l≤l.length
 |[]=>Nat.le_refl _
 |c::r=>by
  have:=lineL_le r
  unfold lineL
  split<;>simp<;>omega
theorem commL_le (o:Nat)(l:List UInt8):(commL o l).1≤l.length:=by
 fun_induction commL o l<;>simp_all<;>omega
theorem commL_pos (o:Nat)(l:List UInt8)(h:hashBar l=true):2≤(commL o l).1:=by
 match l,h with
 |c::d::r,h=>
  simp only[hashBar,decide_eq_true_eq] at h
  unfold commL
  simp[h]
theorem skipL_le:∀ (n:Nat) (b:Bool) (l:List UInt8),(skipL n b l).1≤l.length
 |0,b,l=>by simp[skipL]
 |n+1,b,[]=>by simp[skipL]
 |n+1,b,c::r=>by
  have h1:=skipL_le n b r
  have h2:=skipL_le n b (r.drop (lineL r))
  have h3:=skipL_le n (commL 0 (c::r)).2 ((c::r).drop (commL 0 (c::r)).1)
  have h4:=lineL_le r
  have h5:=commL_le 0 (c::r)
  unfold skipL
  split
  ·simp;omega
  ·split
   ·simp at h2 ⊢;omega
   ·split
    ·simp only[List.length_drop] at h3 ⊢;omega
    ·simp
theorem skipP_le {s:List UInt8}{a:Nat}(h:a≤s.length):a≤skipP s a∧skipP s a≤s.length:=by
 have:=skipL_le (s.drop a).length true (s.drop a)
 unfold skipP
 simp only[List.length_drop] at this ⊢
 omega
theorem runL_le (p:Int→Bool):∀ l:List UInt8,runL p l≤l.length
 |[]=>Nat.le_refl _
 |c::r=>by
  have:=runL_le p r
  unfold runL
  split<;>simp<;>omega
theorem textL_le:∀ (i:Nat) (acc l:List UInt8) (e:Nat) (b:List UInt8),textL i acc l= .ok e b→i<e∧e≤i+l.length
 |i,acc,[],e,b,h=>by simp[textL] at h
 |i,acc,[c],e,b,h=>by
  unfold textL at h
  split at h
  ·simp only[TextR.ok.injEq] at h
   obtain⟨rfl,_⟩:=h
   simp
  ·simp at h
 |i,acc,c::x::r,e,b,h=>by
  unfold textL at h
  split at h
  ·simp only[TextR.ok.injEq] at h
   obtain⟨rfl,_⟩:=h
   simp
  ·split at h
   ·split at h
    ·simp at h
    ·have:=textL_le _ _ _ _ _ h
     simp at this ⊢
     omega
   ·have:=textL_le _ _ _ _ _ h
    simp at this ⊢
    omega
def Fine (s:List UInt8)(a:Nat)(t:Tok):Prop:=t.from_≤s.length∧t.to_≤s.length∧(t.lastB=false→a<t.to_∧a≤t.from_)
theorem fine_wrong {s:List UInt8}{a b:Nat}(h:b≤s.length):Fine s a (wrongP b):=⟨h,h,fun e=>by simp[wrongP,tok0,Tok.lastB] at e⟩
theorem fine_end {s:List UInt8}{a:Nat}:Fine s a (endP s):=⟨Nat.le_refl _,Nat.le_refl _,fun e=>by simp[endP,tok0,Tok.lastB] at e⟩
theorem fine_of {s:List UInt8}{a:Nat}{t:Tok}(h1:t.from_=a)(h2:a<t.to_)(h3:t.to_≤s.length):Fine s a t:=⟨by omega,h3,fun _=>⟨h2,by omega⟩⟩
theorem fine_truth {s:List UInt8}{a:Nat}(h:a<s.length):Fine s a (truthP s a):=by
 have:=runL_le wordB (s.drop (a+1))
 simp only[List.length_drop] at this
 unfold truthP
 simp only
 split
 ·exact fine_of rfl (by simp[tok0];omega) (by simp[tok0];omega)
 ·split
  ·exact fine_of rfl (by simp[tok0];omega) (by simp[tok0];omega)
  ·exact fine_wrong (by omega)
theorem fine_label {s:List UInt8}{a:Nat}(h:a<s.length):Fine s a ((labelP s a).getD (truthP s a)):=by
 have:=runL_le digB (s.drop (a+1))
 simp only[List.length_drop] at this
 have ht:=fine_truth h
 unfold labelP
 simp only
 split
 ·exact ht
 ·split
  ·exact ht
  ·rename_i hd
   have hl:a+1+runL digB (s.drop (a+1))<s.length:=by
    have h2:=congrArg List.length hd
    simp only[List.length_drop,List.length_cons] at h2
    omega
   split
   ·exact fine_of rfl (by simp[tok0];omega) (by simp[tok0];omega)
   ·split
    ·exact fine_of rfl (by simp[tok0];omega) (by simp[tok0];omega)
    ·exact ht
theorem fine_char {s:List UInt8}{a:Nat}(h:a+1<s.length):Fine s a (charP s a):=by
 have:=runL_le letB (s.drop (a+2))
 simp only[List.length_drop] at this
 unfold charP
 split
 ·split
  ·exact fine_wrong (by omega)
  ·exact fine_of rfl (by simp[tok0];omega) (by simp[tok0];omega)
 ·split
  ·exact fine_wrong (by omega)
  ·rename_i hd
   have h2:=congrArg List.length hd
   simp only[List.length_drop,List.length_cons] at h2
   split
   ·exact fine_of rfl (by simp[tok0]) (by simp[tok0];omega)
   ·exact fine_wrong (by omega)
theorem fine_hash {s:List UInt8}{a:Nat}(h:a<s.length):Fine s a (hashP s a):=by
 have hl:=fine_label h
 unfold hashP
 split
 ·exact hl
 ·rename_i hd
  have h2:=congrArg List.length hd
  simp only[List.length_drop,List.length_cons] at h2
  split
  ·exact fine_of rfl (by simp[tok0]) (by simp[tok0];omega)
  ·split
   ·exact fine_of rfl (by simp[tok0]) (by simp[tok0];omega)
   ·split
    ·exact fine_char (by omega)
    ·exact hl
theorem fine_text {s:List UInt8}{a:Nat}(h:a<s.length):Fine s a (textP s a):=by
 unfold textP
 split
 ·exact fine_end
 ·exact fine_wrong (by omega)
 ·rename_i e b he
  have:=textL_le _ _ _ _ _ he
  simp only[List.length_drop] at this
  exact fine_of rfl (by simp[tok0];omega) (by simp[tok0];omega)
theorem fine_word {s:List UInt8}{a:Nat}(h:a<s.length)(hp:0<runL wordB (s.drop a)):Fine s a (wordP s a):=by
 have:=runL_le wordB (s.drop a)
 simp only[List.length_drop] at this
 unfold wordP
 simp only
 split
 ·exact fine_of rfl (by simp[tok0];omega) (by simp[tok0];omega)
 ·split
  ·exact fine_of rfl (by simp[tok0];omega) (by simp[tok0];omega)
  ·split
   ·exact fine_wrong (by omega)
   ·exact fine_of rfl (by simp[tok0];omega) (by simp[tok0];omega)
theorem fine_at {s:List UInt8}{a:Nat}:Fine s a (tokAt s a):=by
 unfold tokAt
 split
 ·exact fine_end
 ·rename_i c r hd
  have h2:=congrArg List.length hd
  simp only[List.length_drop,List.length_cons] at h2
  have hlt:a<s.length:=by omega
  split
  ·exact fine_of rfl (by simp[tok0]) (by simp[tok0];omega)
  ·split
   ·exact fine_of rfl (by simp[tok0]) (by simp[tok0];omega)
   ·split
    ·exact fine_of rfl (by simp[tok0]) (by simp[tok0];omega)
    ·split
     ·exact fine_text hlt
     ·split
      ·exact fine_hash hlt
      ·split
       ·rename_i hw
        exact fine_word hlt (by rw[hd];simp[runL,hw])
       ·exact fine_wrong (by omega)
theorem fine_next {s:List UInt8}{a:Nat}(h:a≤s.length):Fine s a (nextP s a):=by
 have h1:=skipP_le h
 obtain⟨f1,f2,f3⟩:=fine_at (s:=s) (a:=skipP s a)
 exact⟨f1,f2,fun e=>by have:=f3 e;unfold nextP at *;omega⟩
end Go.Loop
