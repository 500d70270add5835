import Derived.Test.YtofencldleijcaaGreatPk12
set_option maxRecDepth 100000
set_option maxHeartbeats 1000000
namespace Go.Proofs.YtofencldleijcaaGreat
open Go.RowKit Go.Maps Go.Proofs.Tryz
theorem LM (x z:Ob):(D8 x z==0)=(decide (x.kind=z.kind/\x.name=z.name)):=by
 unfold D8;by_cases hk:x.kind=z.kind
 .rw[hk,Gq rfl];by_cases hn:x.name=z.name;.rw[hn,Gq rfl];simp
  .have h2:¬x.name.toList=z.name.toList:=λe=>hn (Gx e);cases ER x.name z.name<;>simp[hn,h2]
 .have h1:¬x.kind.toList=z.kind.toList:=λe=>hk (Gx e);cases ER x.kind z.kind<;>simp[hk,h1]
theorem Rm{h:Nat->Ch}{a b:ByteArray}{j:Nat}:∀{m:Nat},j<=m->(∀l,j<=l->l<m->¬((h l).ob.kind=a/\(h l).ob.name=b))->CM h a b m=CM h a b j:=by intro m hm;induction m with
 |zero=>intro _;have:j=0:=Zb;subst this;rfl
 |succ m ih=>
  intro hall;rcases At m j with h3|h3;.have:j=m+1:=Zb;subst this;rfl
  .rw[ES (hall m h3 Zb)];exact ih h3 (λl h1 h2=>hall l h1 Zb)
def D7 (h:Nat->Ch)(o:Ob)(m:Nat):Int:=match CM h o.kind o.name m with|none=>-1|some i=>i
theorem Hy (n m:Nat)(h:Nat->Ch)(o:Ob)(ad ad2:OA)(cap cap2:Nat)(w:World)(lo hi:Nat)(hhi:hi<=w.1.size)(hl:(n:Int)<=1099511627776)(hm:m<=n)(hc:Dr w lo hi ad n h):Calls prog 30 #[.l ad n cap,.agg (vO o ad2 cap2),.i m] w λe w'=>e=.returned (.i (D7 h o m))/\Below w.1.size w w':=by
 go_enter func30,ntmps30;go_wp2;go_loopw[7](λi wr=>∃j:Nat,j<=m/\i=.i ((j:Int)-1)/\(∀l,j<=l->l<m->¬((h l).ob.kind=o.kind/\(h l).ob.name=o.name))/\Below (w.1.size+1) (w.alloc (.cells (vO o ad2 cap2) 61)) wr)(λi _=>(intOf i+1).toNat);case atStart=>exact⟨m,Az _,by go_num,λl h1 h2=>absurd h2 Zb,Al _ _⟩
 case round=>
  obtain⟨j,hj,rfl,hall,hb⟩:=hrel;have hBw:Below w.1.size w wr:=(Am _ _).trans (hb.mono Zb);have hsz:w.1.size+1<=wr.1.size:=by have:=hb.size;simpa using this
  rcases BF j with rfl|hjp;.have HE:=Ag (show D7 h o m=-1 by unfold D7;rw[Rm OM hall];rfl);clear hc hall;go_wp2;go_ret;exact⟨IE HE.symm,hBw⟩
  .obtain⟨k,rfl⟩:∃k,j=k+1:=⟨j-1,Zb⟩;obtain⟨b,off,ah,ch,rfl,hlo,hbh,hcx,hsx⟩:=hc k Zb;obtain⟨d0,d1,d2,d3,d4,d5,d6,d7,d8⟩:=hcx.below hBw Zb;have hbw:b<wr.1.size:=Zb;have y2:=Ah d2 hbw;have y3:=Ah d3 hbw;have y4:=Ah d4 hbw;have y5:=Ah d5 hbw;have y6:=Ah d6 hbw;have y7:=Ah d7 hbw;have y8:=Ah d8 hbw;have z0:=Ah (p:=⟨w.1.size,0,none⟩) (v:=.s o.kind) (As (w:=w) (c:=(vO o ad2 cap2)) (t:=61) Mj 0) Zg;have z1:=Ah (p:=⟨w.1.size,1,none⟩) (v:=.s o.name) (As (w:=w) (c:=(vO o ad2 cap2)) (t:=61) Mj 1) Zg;have z2:=Ah (p:=⟨w.1.size,2,none⟩) (v:=.i o.ver) (As (w:=w) (c:=(vO o ad2 cap2)) (t:=61) Mj 2) Zg;have z3:=Ah (p:=⟨w.1.size,3,none⟩) (v:=.i o.born) (As (w:=w) (c:=(vO o ad2 cap2)) (t:=61) Mj 3) Zg;have z4:=Ah (p:=⟨w.1.size,4,none⟩) (v:=.s o.text) (As (w:=w) (c:=(vO o ad2 cap2)) (t:=61) Mj 4) Zg;have z5:=Ah (p:=⟨w.1.size,5,none⟩) (v:=.bool o.ending) (As (w:=w) (c:=(vO o ad2 cap2)) (t:=61) Mj 5) Zg;have z6:=Ah (p:=⟨w.1.size,6,none⟩) (v:=.l ad2 o.hn cap2) (As (w:=w) (c:=(vO o ad2 cap2)) (t:=61) Mj 6) Zg;have hne:Nonempty (GW wr):=⟨⟨wr,Al _ _⟩⟩;have hkz:(k:Int)+1<=n:=Zb;have hk1:((k+1:Nat):Int)-1=(k:Int):=Zb;have HA:=Ag hall;clear hall hc hcx hsx d0 d1 d2 d3 d4 d5 d6 d7 d8;rw[hk1];by_cases hh:(h k).ob.kind=o.kind/\(h k).ob.name=o.name
   .have HE:=Ag (show D7 h o m=k by unfold D7;rw[Rm hj HA.out,Fb hh]);have hd:(D8 (h k).ob o==0)=true:=by rw[LM];exact decide_eq_true hh
    clear hh;go_wp2;refine AA Ze Ze ?_;repeat(go_big_quiet_step((go_at_call 60;go_must(exact Bf (MU (h k).ob o _ _ _ _ _)))))
    refine wpQuiet_nil ?_;rintro w2 ⟨u,hu⟩;have hw2:Below wr.1.size wr w2:=hu▸u.prop;clear hu u;go_wp2;go_ret;exact⟨IE HE.symm,hBw.trans (hw2.mono Zb)⟩
   .have HN:=Ag hh;have hd:(D8 (h k).ob o==0)=false:=by rw[LM];exact decide_eq_false hh
    clear hh;go_wp2;refine AA Ze Ze ?_;repeat(go_big_quiet_step((go_at_call 60;go_must(exact Bf (MU (h k).ob o _ _ _ _ _)))))
    refine wpQuiet_nil ?_;rintro w2 ⟨u,hu⟩;have hw2:Below wr.1.size wr w2:=hu▸u.prop;clear hu u;go_wp2;go_roundw;case rel=>exact⟨k,Zb,by go_num,λl h1 h2=>(by
     rcases At k l with h3|h3;.exact HA l h3 h2
     .have:l=k:=Zb;subst this;exact HN),hb.trans (hw2.mono Zb)⟩
    case measure=>simp[intOf]
end Go.Proofs.YtofencldleijcaaGreat
