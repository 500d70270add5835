import Derived.Test.YtllmmkchokkaaaaGreatDoorPk15
set_option maxRecDepth 100000
namespace Go.Proofs.YtllmmkchokkaaaaGreatDoor
open Go.RowKit Go.Maps
def encE (e:EO):List Value:=[.string e.ob.kind,.string e.ob.name,.int .i64 e.ob.ver,.int .i64 e.ob.born,.string e.ob.text,.bool e.ob.ending,.slice e.A e.ob.hn e.C]
def cellsE:List EO→List Value | []=>[]|e::r=>encE e ++ cellsE r
theorem encE_len (e:EO):(encE e).length=7:=rfl
theorem cellsE_len:∀ L,(cellsE L).length=L.length*7
 | []=>rfl
 | e::r=>by simp only [cellsE,List.length_append,encE_len,cellsE_len r,List.length_cons];omega
theorem cellsE_append:∀ K L,cellsE (K ++ L)=cellsE K ++ cellsE L
 | [],_=>rfl
 | e::r,L=>by simp only [List.cons_append,cellsE,cellsE_append r L,List.append_assoc]
theorem cellsE_one:∀ L,∀ u ∈ cellsE L,u.oneCell'=true
 | [],u,h=>by cases h
 | e::r,u,h=>by
  rcases List.mem_append.1 h with h1|h1
  ·simp [encE] at h1
   rcases h1 with rfl|rfl|rfl|rfl|rfl|rfl|rfl<;>rfl
  ·exact cellsE_one r u h1
theorem cellsE_at:∀ (L:List EO) (i r:Nat),i<L.length→r<7→(cellsE L)[i*7+r]? = (encE (ixE L i))[r]?
 | [],i,_,h,_=>absurd h (Nat.not_lt_zero _)
 | e::l,0,r,_,hr=>by
  rw [cellsE,List.getElem?_append_left (by rw [encE_len];omega),Nat.zero_mul,Nat.zero_add]
  rfl
 | e::l,i+1,r,h,hr=>by
  rw [cellsE,List.getElem?_append_right (by rw [encE_len];omega),encE_len,show (i+1)*7+r-7=i*7+r by omega,cellsE_at l i r (by simpa using h) hr]
  simp [ixE]
theorem RowE.cells {w:World} {g:Nat} {L:List EO} (h:RowE w g L) {t:Nat} {u:Value} (hu:(cellsE L)[t]? = some u):w.cell? ⟨g,t,none⟩=some u:=by
 have ht:t<L.length*7:=by
  have:=(List.getElem?_eq_some_iff.1 hu).1
  rw [cellsE_len] at this
  exact this
 obtain ⟨q,r,hr,rfl⟩:∃ q r,r<7∧t=q*7+r:=⟨t / 7,t % 7,Za,Za⟩
 have hi:q<L.length:=Za
 obtain ⟨c0,c1,c2,c3,c4,c5,c6⟩:=h.ob q hi
 have hat:=cellsE_at L q r hi hr
 rw [hu] at hat
 rcases (show r=0∨r=1∨r=2∨r=3∨r=4∨r=5∨r=6 by omega) with rfl|rfl|rfl|rfl|rfl|rfl|rfl<;>simp only [encE,List.getElem?_cons_succ,List.getElem?_cons_zero] at hat<;>rw [hat]
 ·exact c0
 ·exact c1
 ·exact c2
 ·exact c3
 ·exact c4
 ·exact c5
 ·exact c6
def RowS (w:World) (ad:Option Addr) (g cap:Nat) (L:List EO):Prop:=(ad=none∧L=[]∧cap=0)∨(ad=some ⟨g,0,none⟩∧RowE w g L∧L.length≤cap)
theorem RowS.grow {w w':World} {ad:Option Addr} {g cap:Nat} {L:List EO} (h:RowS w ad g cap L) (hf:Below w.1.size w w'):RowS w' ad g cap L:=by
 rcases h with h|⟨h1,h2,h3⟩
 ·exact Or.inl h
 ·exact Or.inr ⟨h1,h2.grow hf,h3⟩
def flK (o:Ob) (L:List EO):List EO:=L.filter (fun e=>otherK o e.ob)
theorem ixE_map {L:List EO} {i:Nat} (h:i<L.length):(L.map EO.ob)[i]? = some (ixE L i).ob:=by
 rw [ixE_lt h]
 simp [h]
theorem flK_map (o:Ob) (L:List EO):(flK o L).map EO.ob=(L.map EO.ob).filter (otherK o):=by
 unfold flK
 rw [List.filter_map]
 rfl
def placeP (o:Ob) (L:List EO) (k:Nat):Prop:=k≤L.length∧(∀ j,j<k→befB (ixE L j).ob o=true)∧(k<L.length→befB (ixE L k).ob o=false)
theorem put_list {o:EO} {L:List EO} {k:Nat} (h:placeP o.ob L k):((flK o.ob L).take k ++ o::(flK o.ob L).drop k).map EO.ob=putG o.ob (L.map EO.ob):=by
 obtain ⟨h1,h2,h3⟩:=h
 rw [putG_split o.ob (L.map EO.ob) k (by simpa using h1) (fun j hj=>⟨_,ixE_map Za,h2 j hj⟩) (fun hk=>by
  have hk':k<L.length:=by simpa using hk
  exact ⟨_,ixE_map hk',h3 hk'⟩)]
 rw [List.map_append,List.map_cons,List.map_take,List.map_drop,flK_map]
end Go.Proofs.YtllmmkchokkaaaaGreatDoor
