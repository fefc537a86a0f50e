package starter

// chapter is what chapter 16 lists for P16.1, each line with its line feed.
const chapter = `card "Ash Imp" cost 1 power 2 { }
card "Reed Frog" cost 1 power 1 { reveal { draw mine 1; } }
card "Tin Squire" cost 1 power 1 { reveal { power (mine here not me all) 1; } }
card "Dust Cat" cost 1 power 3 { reveal { power (mine here not me first) -1; } }
card "Lamp Moth" cost 1 power 1 { end { power me 1; } }
card "Pebble Boy" cost 1 power 2 { death { draw mine 1; } }
card "Thorn Bush" cost 1 power 0 { always 1 { aura (theirs here all) -1; } }
card "River Ox" cost 2 power 4 { }
card "Ember Fox" cost 2 power 2 { reveal { power (theirs here weakest) -2; } }
card "Salt Monk" cost 2 power 2 { always 1 { aura (mine here not me all) 1; } }
card "Grey Owl" cost 2 power 3 { reveal { if count (theirs here all) > 1 { power me 2; } } }
card "Bog Witch" cost 2 power 1 { reveal { power (theirs here all) -1; } }
card "Wall Guard" cost 2 power 3 { always 1 { shield (mine here not me all); } }
card "Ferry Man" cost 2 power 2 { reveal { move (mine away first) here; } }
card "Bell Ringer" cost 2 power 2 { reveal { energy mine 1; } }
card "Crow Thief" cost 2 power 2 { reveal { discard theirs first; } }
card "Wool Lamb" cost 2 power 1 { death { spawn "Lamb Ghost" mine here 4; } }
card "Cart Horse" cost 2 power 3 { moved { power me 2; } }
card "Oak Heart" cost 3 power 6 { }
card "Iron Boar" cost 3 power 4 { reveal { destroy (theirs here power <= 2 first); } }
card "Choir Lead" cost 3 power 2 { always 1 { aura (mine anywhere cost <= 1 all) 1; } }
card "Frost Elk" cost 3 power 3 { reveal { power (theirs here strongest) -3; } }
card "Twin Heron" cost 3 power 2 { reveal { spawn "Heron Chick" mine left 2; spawn "Heron Chick" mine right 2; } }
card "Harbor Cook" cost 3 power 3 { reveal { draw both 1; power me count (both here all); } }
card "Night Tailor" cost 3 power 2 { reveal { each (mine here not me all) { power it 1; } } }
card "Quarry Mule" cost 3 power 4 { end { if free mine here = 0 { power me 2; } } }
card "Stone Judge" cost 3 power 3 { always 2 { if sum (theirs here all) > 10 { aura me 3; } } }
card "Old Ranger" cost 3 power 4 { reveal { return (theirs here cost <= 2 first); } }
card "Ink Squid" cost 3 power 3 { reveal { energy theirs -1; } }
card "Mirror Hag" cost 3 power 1 { reveal { set me sum (theirs here strongest); } }
card "Marsh Drake" cost 4 power 6 { reveal { power (mine here not me all) -1; } }
card "Gate Keeper" cost 4 power 5 { always 1 { bar theirs here; } }
card "War Drum" cost 4 power 3 { always 1 { aura (mine anywhere not me all) 1; } }
card "Grave Digger" cost 4 power 3 { reveal { destroy (mine here cost <= 1 all); power me 2 * count (mine here all); } }
card "Storm Crane" cost 4 power 5 { reveal { move (theirs here weakest) right; } }
card "Glass Knight" cost 4 power 8 { always 1 { aura (theirs here all) 1; } }
card "Bread Queen" cost 4 power 4 { reveal { draw mine 2; } }
card "Hollow Tree" cost 4 power 2 { always 3 { aura me count (mine here all); } }
card "Long Spear" cost 4 power 5 { reveal { each (theirs here power > 4 all) { power it -2; } } }
card "Cloud Whale" cost 5 power 9 { }
card "Sea Wolf" cost 5 power 7 { reveal { if count (mine here all) = 1 { power me 3; } } }
card "Red Dragon" cost 5 power 6 { reveal { power (theirs here all) -2; } }
card "High Priest" cost 5 power 4 { always 2 { aura (mine here all) 2; } }
card "Siege Ram" cost 5 power 6 { reveal { destroy (theirs here strongest); } }
card "Bank Clerk" cost 5 power 5 { end { energy mine 1; } }
card "Wild Hunt" cost 5 power 5 { reveal { spawn "Hound" mine left 3; spawn "Hound" mine here 3; spawn "Hound" mine right 3; } }
`
