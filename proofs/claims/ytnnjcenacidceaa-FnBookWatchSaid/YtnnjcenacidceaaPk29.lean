import Derived.Test.YtnnjcenacidceaaPk05
import Derived.Laws.BitsLemmas
import Derived.Test.YtnnjcenacidceaaPk03
import Derived.Test.YtnnjcenacidceaaPk26
import Derived.Test.YtnnjcenacidceaaPk27
import Derived.Test.YtnnjcenacidceaaPk28
set_option maxRecDepth 100000
namespace Go.Proofs.Ytnnjcenacidceaa
open Go.RowKit Go.Proofs.Try
def XM (x:Int)(b:UInt8):Int:=IntKind.u64.wrap (bits BinOp.xor IntKind.u64 x (IntKind.u64.wrap (b.toNat:Int))*1099511628211)
def Ps (x:Int)(l:List UInt8):Int:=l.foldl XM x
theorem Q3 (x:Int)(l m:List UInt8):Ps x (l++m)=Ps (Ps x l) m:=List.foldl_append
theorem Yy (x:Int)(s:ByteArray)(k:Nat)(h:k<s.size):Ps x (s.data.toList.take (k+1))=XM (Ps x (s.data.toList.take k)) s[k]:=by
 have h':k<s.data.toList.length:=by simpa using h
 rw[List.take_succ_eq_append_getElem h',Q3];rfl
def Y5 (v:Int)(i:Nat):Int:=v/2^(8*i)%256
def NV (v:Int)(i:Nat):UInt8:=UInt8.ofNat (Y5 v i).toNat
def Nl (v:Int):List UInt8:=[NV v 7,NV v 6,NV v 5,NV v 4,NV v 3,NV v 2,NV v 1,NV v 0]
theorem MB (v:Int)(i:Nat):((NV v i).toNat:Int)=Y5 v i:=by have h1:0<=Y5 v i:=Int.emod_nonneg _ Zb;have h2:Y5 v i<256:=Int.emod_lt_of_pos _ Zb;unfold NV;rw[UInt8.toNat_ofNat'];omega
theorem fA{a b:ByteArray}(h:a.data.toList=b.data.toList):a=b:=by cases a;cases b;simpa using h
theorem Mq (xs:List ByteArray):(NB xs).data.toList=OK xs++[10]:=by simp[NB]
theorem YK (s k n d:ByteArray):s++(⟨#[119,97,110,116,32]⟩:ByteArray)++k++(⟨#[32]⟩:ByteArray)++n++(⟨#[32]⟩:ByteArray)++d++(⟨#[10]⟩:ByteArray)=s++NB [⟨#[119,97,110,116]⟩,k,n,d]:=by apply fA;simp[Mq,OK,Lib.join]
theorem V3 (s o k n v t h:ByteArray):s++(⟨#[119,114,105,116,101,32]⟩:ByteArray)++o++(⟨#[32]⟩:ByteArray)++k++(⟨#[32]⟩:ByteArray)++n++(⟨#[32]⟩:ByteArray)++v++(⟨#[32]⟩:ByteArray)++t++(⟨#[32]⟩:ByteArray)++h++(⟨#[10]⟩:ByteArray)=s++NB [⟨#[119,114,105,116,101]⟩,o,k,n,v,t,h]:=by apply fA;simp[Mq,OK,Lib.join]
def Es (n:Int):ByteArray:=⟨(Lib.decDigits n.toNat).toArray⟩
def O5 (x:Wt):ByteArray:=NB [⟨#[119,97,110,116]⟩,x.kind,x.name,Es x.ver]
def OF (x:Wr):ByteArray:=NB [⟨#[119,114,105,116,101]⟩,Es x.op,x.kind,x.name,Es x.seen,⟨(VC x.text).toArray⟩,x.hold]
def XH (u:Bu):Nat->ByteArray
 |0=>⟨#[]⟩
 |k+1=>XH u k++O5 (u.ws k)
def YL (u:Bu):Nat->ByteArray
 |0=>XH u u.wn
 |k+1=>YL u k++OF (u.rs k)
def wX (u:Bu):Nat->Int
 |0=>14695981039346656037
 |k+1=>Ps (wX u k) (O5 (u.ws k)).data.toList
def oO (u:Bu):Nat->Int
 |0=>wX u u.wn
 |k+1=>Ps (oO u k) (OF (u.rs k)).data.toList
theorem pC (u:Bu)(k:Nat):wX u k=Ps 14695981039346656037 (XH u k).data.toList:=by induction k with
 |zero=>rfl
 |succ k ih=>
  have e:(XH u (k+1)).data.toList=(XH u k).data.toList++(O5 (u.ws k)).data.toList:=by simp[XH]
  rw[e,Q3,<-ih];rfl
theorem fV (u:Bu)(k:Nat):oO u k=Ps 14695981039346656037 (YL u k).data.toList:=by induction k with
 |zero=>exact pC u u.wn
 |succ k ih=>
  have e:(YL u (k+1)).data.toList=(YL u k).data.toList++(OF (u.rs k)).data.toList:=by simp[YL]
  rw[e,Q3,<-ih];rfl
theorem eW (y:Int):IntKind.u64.wrap y=y%18446744073709551616:=by unfold IntKind.wrap;simp[IntKind.signed,IntKind.bits]
theorem Xl (x:Int)(b:UInt8):0<=XM x b/\XM x b<18446744073709551616:=by unfold XM;rw[eW];exact⟨Int.emod_nonneg _ Zb,Int.emod_lt_of_pos _ Zb⟩
theorem mN (l:List UInt8):∀(x:Int),0<=x->x<18446744073709551616->0<=Ps x l/\Ps x l<18446744073709551616:=by induction l with
 |nil=>exact λx h0 h1=>⟨h0,h1⟩
 |cons b l ih=>exact λx _ _=>ih (XM x b) (Xl x b).1 (Xl x b).2
theorem oS (u:Bu)(k:Nat):0<=oO u k/\oO u k<18446744073709551616:=by rw[fV];exact mN _ _ Zb Zb
def Ow (u:Bu):ByteArray:=⟨(Nl (oO u u.rn)).toArray⟩
structure Ca where
 client:ByteArray
 num:Int
 bu:Bu
abbrev vC (x:Ca)(a b:OA)(d e:Nat):Array Value:=#[.s x.client,.i x.num,.l a x.bu.wn d,.l b x.bu.rn e]
abbrev bc (x:Ca)(a b:OA)(d e:Nat):List Value:=[.s x.client,.i x.num,.l a x.bu.wn d,.l b x.bu.rn e]
structure Sa where
 code:Int
 ver:Int
 again:Bool
abbrev vS (x:Sa):Array Value:=#[.i x.code,.i x.ver,.bool x.again]
abbrev dh (x:Sa):List Value:=[.i x.code,.i x.ver,.bool x.again]
def XI (c:Ca):Bool:=Bv c.client&&EG c.num 1 1000000
structure SS (u:Bu):Prop where
 w:∀i,i<u.wn->(u.ws i).ver<=9223372036854775807
 r:∀i,i<u.rn->(u.rs i).seen<=9223372036854775807
structure UX (c:Ca):Prop where
 n:(c.client.size:Int)<=140737488355328
 u:Oe c.bu
 i:SS c.bu
def Pr (B:Bk)(cl:ByteArray):Ti:=B.ts (EI B cl)
def OO (B:Bk)(c:Ca):Ti:=⟨c.client,c.num,Ow c.bu,Ct B c.bu,CM B c.bu⟩
def Nf (x:Nat->Ti)(k:Nat)(is:Bool)(t:Ti):Nat->Ti:=λi=>if i<k then x i else if i=k then t else x (if is then i else i-1)
def Qo (B:Bk)(c:Ca):Bool:=if Mp B c.client then decide ((Pr B c.client).num<c.num)else decide (B.tn<50)
def Nr (B:Bk)(c:Ca):Bk:={BG B c.bu with tn:=if Mp B c.client then B.tn else B.tn+1,ts:=Nf B.ts (EI B c.client) (Mp B c.client) (OO B c)}
def LP (B:Bk)(c:Ca):Sa:=if XI c=false then⟨1,0,false⟩else if Qk c.bu=false then⟨2,0,false⟩else if Qo B c=true then⟨Ct B c.bu,CM B c.bu,false⟩else if Mp B c.client=false then⟨6,0,false⟩else if c.num<(Pr B c.client).num then⟨8,0,false⟩else if Ow c.bu=(Pr B c.client).print then⟨(Pr B c.client).code,(Pr B c.client).ver,true⟩else⟨7,0,false⟩
def Ll (B:Bk)(c:Ca):Bk:=if XI c=true/\Qk c.bu=true/\Qo B c=true then Nr B c else B
theorem XW (B:Bk)(v:Wr):¬BJ B v=2:=by
 unfold BJ D9;repeat' split
 all_goals decide
theorem Yq (B:Bk)(x:Bu):¬Ct B x=2:=by
 unfold Ct;split;.decide
 .split;.exact XW _ _
  .decide
theorem oZ{B:Bk}(hv:Bc (LU B) 7=true):Ly B.tn B.ts B.now=true:=by rw[AP]at hv;exact hv 6 Za
theorem Vg{B:Bk}(hv:Bc (LU B) 7=true):B.tn<=50:=by have h:=oZ hv;unfold Ly at h;rw[Al]at h;exact of_decide_eq_true h.1
theorem Rm (B:Bk)(cl:ByteArray):EI B cl<=B.tn:=(MK _ _ _).1
theorem Mg{s:ByteArray}(h:Bv s=true):s.size<=20:=by unfold Bv EG at h;simp only[Al,decide_eq_true_eq]at h;have:=h.1.2;omega
def K5 (x:Nat->Ti)(j:Nat):Value:=match j%5 with|0=>.s (x (j/5)).client|1=>.i (x (j/5)).num|2=>.s (x (j/5)).print|3=>.i (x (j/5)).code|_=>.i (x (j/5)).ver
theorem Ua (x:Nat->Ti)(i:Nat):K5 x (i*5)=.s (x i).client/\K5 x (i*5+1)=.i (x i).num/\K5 x (i*5+2)=.s (x i).print/\K5 x (i*5+3)=.i (x i).code/\K5 x (i*5+4)=.i (x i).ver:=by
 have e:∀r,r<5->(i*5+r)%5=r/\(i*5+r)/5=i:=λr hr=>⟨Za,Za⟩;unfold K5;refine⟨?_,?_,?_,?_,?_⟩;.rw[show(i*5)%5=0 by omega,show(i*5)/5=i by omega];rfl
 .rw[(e 1 Za).1,(e 1 Za).2];rfl
 .rw[(e 2 Za).1,(e 2 Za).2];rfl
 .rw[(e 3 Za).1,(e 3 Za).2];rfl
 .rw[(e 4 Za).1,(e 4 Za).2];rfl
theorem L2 (x:Nat->Ti)(j:Nat):(K5 x j).oneCell'=true:=by unfold K5;split<;>rfl
theorem Xj (x:Nat->Ti)(y:Nat->Ti)(k:Nat)(z:Nat->Ti)(hz:∀i,z i=if i<k then x i else y (i-k))(j:Nat):(if j<k*5 then K5 x j else K5 y (j-k*5))=K5 z j:=by
 have h:=hz (j/5);unfold K5;by_cases hj:j<k*5;.rw[if_pos hj,h,if_pos Za]
 .rw[if_neg hj,h,if_neg Za,show(j-k*5)%5=j%5 by omega,show(j-k*5)/5=j/5-k by omega]
end Go.Proofs.Ytnnjcenacidceaa
